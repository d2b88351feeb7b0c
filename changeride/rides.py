"""Stage 3: rides and rounds, the other ways to tell a round, and two rounds made one."""

from changeride.errors import NoNumber, NoRide
from changeride.kinds import is_below, is_row
from changeride.webs import checked_web, is_end


def far_end(end):
    """The other end of the same line."""
    return end[0], 1 - end[1]


def start_of(lines, end):
    """The place where the end is: there a ride begins the line by it."""
    return lines[end[0]][end[1]]


def goes_on(lines, end, following):
    """Whether a ride that began a line by the first end may begin the next line by the second one."""
    if start_of(lines, far_end(end)) != start_of(lines, following):
        return False
    return lines[end[0]][2] != lines[following[0]][2]


def is_ride(lines, thing):
    """Whether it is a ride along some of these lines, already checked."""
    if not is_row(thing) or len(thing) == 0 or not all(is_end(lines, end) for end in thing):
        return False
    if len({end[0] for end in thing}) < len(thing):
        return False
    return all(goes_on(lines, end, following) for end, following in zip(thing[:-1], thing[1:]))


def goes_round(lines, way):
    """Whether a ride along these lines, each gone along once, would go on at each of them, and behind the last one."""
    return all(goes_on(lines, end, following) for end, following in zip(way, way[1:] + way[:1]))


def is_round(lines, thing):
    """Whether it is a round along some of these lines, already checked."""
    return is_ride(lines, thing) and goes_on(lines, thing[-1], thing[0])


def checked_ride(lines, ride):
    """The ride that was handed in, as a list of tuples of our own."""
    if not is_ride(lines, ride):
        raise NoRide("that is no ride of the web")
    return [tuple(end) for end in ride]


def checked_round(lines, ride):
    """The round that was handed in, as a list of tuples of our own."""
    if not is_round(lines, ride):
        raise NoRide("that is no round of the web")
    return [tuple(end) for end in ride]


def ride_is(web, ride):
    """Whether it is a ride of the web."""
    _, lines = checked_web(web)
    return is_ride(lines, ride)


def round_is(web, ride):
    """Whether it is a round of the web."""
    _, lines = checked_web(web)
    return is_round(lines, ride)


def places_of(web, ride):
    """The places that the ride comes to, one more than it has lines."""
    _, lines = checked_web(web)
    way = checked_ride(lines, ride)
    return [start_of(lines, end) for end in way] + [start_of(lines, far_end(way[-1]))]


def turned_about(way):
    """The same lines gone along the other way."""
    return [far_end(end) for end in reversed(way)]


def about(web, ride):
    """The ride turned about."""
    _, lines = checked_web(web)
    return turned_about(checked_ride(lines, ride))


def begun_at(web, ride, number):
    """The round begun at the line that has this place in its list."""
    _, lines = checked_web(web)
    ring = checked_round(lines, ride)
    if not is_below(number, len(ring)):
        raise NoNumber("the round has no such place in its list")
    return ring[number:] + ring[:number]


def all_beginnings(ring):
    """All lists that the round is, of all beginnings and both ways about."""
    return [way[number:] + way[:number] for way in (ring, turned_about(ring)) for number in range(len(ring))]


def least_of(ring):
    """The least of all lists that the round is."""
    # Just one of them begins by the first end of its least line, and that is the least end that any begins by.
    first = (min(ring)[0], 0)
    way = ring if first in ring else turned_about(ring)
    at = way.index(first)
    return way[at:] + way[:at]


def least_round(web, ride):
    """The least of all lists that the round is."""
    _, lines = checked_web(web)
    return least_of(checked_round(lines, ride))


def may_stand(lines, end, following):
    """Whether the second end may stand behind the first one in a ride; with None for no end it always may."""
    return end is None or following is None or goes_on(lines, end, following)


def taken_in(lines, way, closed, ring):
    """The way with all of the ring put in between; None, where they come to no place together.

    The way is a round where it is closed, else a ride that need not change where it begins and ends.
    """
    ahead = [way[-1] if closed else None] + way
    behind = way + [way[0] if closed else None]
    beginnings = all_beginnings(ring)
    # Where they meet, the way's two companies are unlike and the ring's are: so one way about of the ring fits.
    for at, (end, following) in enumerate(zip(ahead, behind)):
        for begun in beginnings:
            if may_stand(lines, end, begun[0]) and may_stand(lines, begun[-1], following):
                return way[:at] + begun + way[at:]
    return None


def made_one(web, one, other):
    """A round of all lines of two rounds; None, where they come to no place together."""
    _, lines = checked_web(web)
    ring = checked_round(lines, one)
    more = checked_round(lines, other)
    if len({end[0] for end in ring + more}) < len(ring) + len(more):
        raise NoRide("the rounds have a line in common")
    return taken_in(lines, ring, True, more)
