"""Stage 5: the least ride of all that begin and end as told, and the least round."""

from changeride.errors import NoEnd
from changeride.rides import far_end, goes_on, start_of
from changeride.wants import want_of
from changeride.webs import checked_web, head_of, is_end


def all_ends(rest):
    """All ends of these lines, sorted."""
    return [(number, side) for number in rest for side in (0, 1)]


def open_ends(rest, end, last, home):
    """The ends at which a ride still has to change when it goes along the rest of the lines, by this end first.

    At this end it has changed already, and at the far end of its last line it does not; but a round has still to
    change to the end by which it began, its home.
    """
    left = [end] if last is None else [end, far_end(last)]
    kept = [other for other in all_ends(rest) if other not in left]
    return kept if home is None else kept + [home]


def alone_among(lines, ends):
    """How many of these ends stay alone at the least."""
    groups = {}
    for end in ends:
        companies = groups.setdefault(start_of(lines, end), {})
        companies.setdefault(lines[end[0]][2], []).append(end)
    return sum([want_of(by_company) for by_company in groups.values()])


def hang_together(lines, rest, ends):
    """Whether all of the rest of the lines hang together by these ends."""
    heads = {number: number for number in rest}
    first_at = {}
    for end in ends:
        number = end[0]
        heads.setdefault(number, number)
        first = first_at.setdefault(start_of(lines, end), number)
        heads[head_of(heads, number)] = head_of(heads, first)
    return len([number for number, head in heads.items() if number == head]) == 1


def can_go_on(lines, rest, end, last, home):
    """Whether a ride can go along all the rest of the lines, by this end first, and end as told."""
    ends = open_ends(rest, end, last, home)
    # With a line more, of a company of its own, from where the ride ends to where it begins, what is left is a part
    # without wants just where the ride can be; and such a part is one round. Where no last end is told, the end that
    # stays alone is where that line comes to.
    spare = 1 if last is None and home is None else 0
    return alone_among(lines, ends) <= spare and hang_together(lines, rest, ends)


def next_end(lines, rest, ends, last, home):
    """The first of the ends by which a ride can go on to the last line, or None."""
    for end in ends:
        if can_go_on(lines, rest, end, last, home):
            return end
    return None


def least_way(lines, firsts, last, home):
    """The least ride along all lines that begins by one of these ends, sorted, and ends as told, or None."""
    rest = list(range(len(lines)))
    way = []
    ends = firsts
    while len(rest) > 0:
        end = next_end(lines, rest, ends, last, home)
        if end is None:
            return None
        way.append(end)
        rest.remove(end[0])
        ends = [other for other in all_ends(rest) if goes_on(lines, end, other)]
    return way


def checked_end(lines, end):
    """The end that was handed in, as a tuple of our own, or None where none was."""
    if end is None:
        return None
    if not is_end(lines, end):
        raise NoEnd("there is no such end")
    return tuple(end)


def ride_by(web, *, first=None, last=None):
    """The least of all rides along all lines that begin by the first end and whose last one is the other, or None."""
    _, lines = checked_web(web)
    begun = checked_end(lines, first)
    ended = checked_end(lines, last)
    if len(lines) == 0:
        return None
    firsts = all_ends(list(range(len(lines)))) if begun is None else [begun]
    return least_way(lines, firsts, ended, None)


def round_of(web):
    """The least of all rounds along all lines, or None."""
    _, lines = checked_web(web)
    if len(lines) == 0:
        return None
    # A round can be begun at each line, and turned about: so the least one begins by the first end of all.
    return least_way(lines, [(0, 0)], None, (0, 0))


def one_ride(web):
    """The least of all rides along all lines, round or not, or None."""
    return ride_by(web)
