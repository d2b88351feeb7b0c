"""Stage 7: turnings of rounds, all rounds of a web, and what turnings lead from one to another."""

from changeride.errors import NoRide, NoTurning, TooMany
from changeride.kinds import is_below, is_row
from changeride.rides import checked_round, goes_on, goes_round, least_of, start_of, turned_about
from changeride.told import all_ends, can_go_on
from changeride.webs import checked_web

MOST_ROUNDS = 5000


def turned_by(ring, turning):
    """The list as the pair or the four of places in it turns it, be it a round again or not."""
    if len(turning) == 2:
        i, j = turning
        return ring[:i] + turned_about(ring[i:j]) + ring[j:]
    i, j, k, l = turning
    return ring[:i] + ring[k:l] + ring[j:k] + ring[i:j] + ring[l:]


def turnings_of(lines, ring):
    """All turnings of a round, sorted."""
    stops = [start_of(lines, end) for end in ring]
    pairs = [(i, j) for j in range(len(stops)) for i in range(j) if stops[i] == stops[j]]
    fours = [(i, j, k, l) for i, k in pairs for j, l in pairs if i < j <= k < l]
    return sorted([turning for turning in pairs + fours if goes_round(lines, turned_by(ring, turning))])


def in_order(row):
    """Whether it is a pair or a four of numbers that rise as those of a turning do."""
    if len(row) == 2:
        return row[0] < row[1]
    return len(row) == 4 and row[0] < row[1] <= row[2] < row[3]


def is_turning(lines, ring, thing):
    """Whether it is a turning of the round."""
    if not is_row(thing) or not all(is_below(number, len(ring)) for number in thing):
        return False
    # What is turned at unlike places does not hang together any more, so this asks for like ones, too.
    return in_order(thing) and goes_round(lines, turned_by(ring, thing))


def turnings(web, ride):
    """All turnings of a round, sorted."""
    _, lines = checked_web(web)
    return turnings_of(lines, checked_round(lines, ride))


def turned(web, ride, turning):
    """The round by a turning."""
    _, lines = checked_web(web)
    ring = checked_round(lines, ride)
    if not is_turning(lines, ring, turning):
        raise NoTurning("that is no turning of the round")
    return turned_by(ring, turning)


def gone_on(lines, way):
    """The way gone on by one line more, sorted: all that can go on from there to a round along all lines."""
    gone = [number for number, _ in way]
    rest = [number for number in range(len(lines)) if number not in gone]
    # The least list of a round along all lines begins by the first end of all.
    ends = [(0, 0)] if len(way) == 0 else [end for end in all_ends(rest) if goes_on(lines, way[-1], end)]
    return [way + [end] for end in ends if can_go_on(lines, rest, end, None, (0, 0))]


def rounds_along(lines):
    """All rounds along all of the lines, each by its least list, sorted."""
    rounds = []
    waiting = [[]] if len(lines) > 0 else []
    while len(waiting) > 0:
        way = waiting.pop()
        if len(way) == len(lines):
            rounds.append(way)
        else:
            # The least is taken first, so it goes last.
            waiting.extend(gone_on(lines, way)[::-1])
        if len(rounds) > MOST_ROUNDS:
            raise TooMany("there are more rounds than are told")
    return rounds


def all_rounds(web):
    """All rounds along all lines of the web, each by its least list, sorted."""
    _, lines = checked_web(web)
    return rounds_along(lines)


def rows_from(lines, ring):
    """A shortest row of turnings to each round that one leads to from this one, by the rounds' least lists."""
    rows = {tuple(least_of(ring)): []}
    reached = [(ring, [])]
    while len(reached) > 0:
        further = []
        for way, row in reached:
            for turning in turnings_of(lines, way):
                following = turned_by(way, turning)
                least = tuple(least_of(following))
                if least not in rows:
                    rows[least] = row + [turning]
                    further.append((following, row + [turning]))
        reached = further
    return rows


def checked_whole(lines, ride):
    """The round along all lines that was handed in, as a list of tuples of our own."""
    ring = checked_round(lines, ride)
    if len(ring) < len(lines):
        raise NoRide("the round does not go along all lines")
    return ring


def row_to(web, one, other):
    """A shortest row of turnings that leads from one round along all lines to another one, or None."""
    _, lines = checked_web(web)
    ring = checked_whole(lines, one)
    due = checked_whole(lines, other)
    # Where there are too many rounds, this refuses.
    rounds_along(lines)
    return rows_from(lines, ring).get(tuple(least_of(due)))


def heaps(web):
    """In how many heaps all rounds fall, where rows of turnings lead to all that are in one heap, and to no others."""
    _, lines = checked_web(web)
    heaped = set()
    count = 0
    for ring in rounds_along(lines):
        if tuple(ring) not in heaped:
            count += 1
            for least in rows_from(lines, ring):
                heaped.add(least)
    return count
