"""Stage 2: what the places of a web want, and plans of how to go on at a place."""

from math import comb, perm

from changeride.kinds import is_row, is_row_of
from changeride.webs import check_place, checked_web, ends_of, is_end


def groups_of(lines, place):
    """The ends at a place, sorted, by the companies of their lines."""
    groups = {}
    for number, side in ends_of(lines, place):
        groups.setdefault(lines[number][2], []).append((number, side))
    return groups


def want_of(groups):
    """How many ends of these groups stay alone at the least."""
    counts = [len(group) for group in groups.values()]
    ends = sum(counts)
    return max(2 * max(counts, default=0) - ends, ends % 2)


def want_at(web, place):
    """The want of a place."""
    places, lines = checked_web(web)
    check_place(places, place)
    return want_of(groups_of(lines, place))


def wants(web):
    """All wants, by places."""
    places, lines = checked_web(web)
    return [want_of(groups_of(lines, place)) for place in range(places)]


def row_of_groups(groups):
    """All ends of the groups in one list, the greatest group first, none torn apart."""
    row = []
    for _, company in sorted([(-len(group), company) for company, group in groups.items()]):
        row.extend(groups[company])
    return row


def plan_at(web, place):
    """A plan of the place with as few ends alone as its want."""
    places, lines = checked_web(web)
    check_place(places, place)
    groups = groups_of(lines, place)
    row = row_of_groups(groups)
    want = want_of(groups)
    alone = row[:want]
    rest = row[want:]
    half = len(rest) // 2
    # No group has more than half of the rest now, so ends half the row apart are of unlike companies.
    pairs = [(min(one, other), max(one, other)) for one, other in zip(rest[:half], rest[half:])]
    return sorted(pairs), sorted(alone)


def is_pair(lines, thing):
    """Whether it is two ends of lines of unlike companies."""
    if not is_row_of(thing, 2) or not is_end(lines, thing[0]) or not is_end(lines, thing[1]):
        return False
    return lines[thing[0][0]][2] != lines[thing[1][0]][2]


def plan_shows(web, place, plan):
    """Whether it is a plan of the place."""
    places, lines = checked_web(web)
    check_place(places, place)
    if not is_row_of(plan, 2) or not is_row(plan[0]) or not is_row(plan[1]):
        return False
    pairs, alone = plan
    if not all(is_pair(lines, pair) for pair in pairs) or not all(is_end(lines, end) for end in alone):
        return False
    told = [tuple(end) for pair in pairs for end in pair] + [tuple(end) for end in alone]
    return sorted(told) == ends_of(lines, place)


def with_company(ways, count):
    """The ways to pair ends up, by how many still wait for one of a later company, with a company's ends more."""
    told = {}
    for waiting, many in ways.items():
        for paired in range(min(waiting, count) + 1):
            left = waiting + count - 2 * paired
            told[left] = told.get(left, 0) + many * comb(count, paired) * perm(waiting, paired)
    return told


def plans_counted(web, place):
    """How many plans of the place leave no end alone."""
    places, lines = checked_web(web)
    check_place(places, place)
    # There are too many plans to list them, but their number only asks how many ends each company has.
    ways = {0: 1}
    for group in groups_of(lines, place).values():
        ways = with_company(ways, len(group))
    return ways.get(0, 0)
