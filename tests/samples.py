"""Webs and wrong things that several test files use, and slow ways to work an answer out."""

import itertools
import random

NO_NUMBERS = (True, False, None, "0", "", "a", 0.0, b"0", [], (), [0], (0,), {}, {0: 0})
NO_COMPANIES = (True, False, None, 0, 1, "", "A", "Z", "aa", "ab", " ", "1", "`", "{", "a ", b"a", ["a"], ("a",), {})
NO_WEBS = (
    None,
    True,
    0,
    "",
    "web",
    (),
    [],
    (1,),
    (1, (), ()),
    (True, ()),
    (-1, ()),
    ((), 1),
    (1, None),
    (1, ((0, 1, "a"),)),
    (1, ((0, 0, "A"),)),
    (1, ((0, 0),)),
    {0: 1, 1: ()},
)
NO_ENDS = NO_NUMBERS + (
    0,
    "00",
    (0, 0, 0),
    [0, 0, 0],
    (0, 2),
    (0, -1),
    (-1, 0),
    (True, 0),
    (False, 0),
    (0, True),
    (0, False),
    (0, None),
    (None, 0),
    ("0", 0),
    (0, "0"),
    (0.0, 0),
    (0, 0.0),
    ((0, 0),),
    ((0, 0), (0, 1)),
    (10 ** 29, 0),
    (0, 10 ** 29),
    {0: 0, 1: 1},
)

EMPTY = (0, ())
LONELY = (3, ())
LOOP = (1, ((0, 0, "a"),))
SIDE_BY_SIDE = (2, ((0, 1, "a"), (0, 1, "a"), (1, 0, "b")))
TRIANGLE = (3, ((0, 1, "a"), (1, 2, "b"), (2, 0, "c")))
ONE_COMPANY = (4, ((0, 1, "a"), (0, 2, "a"), (0, 3, "a"), (0, 0, "a")))
TWO_PARTS = (6, ((4, 5, "a"), (0, 1, "b"), (5, 5, "c"), (1, 2, "a"), (2, 0, "a")))
FULL = (24, tuple((k % 24, (k * 7 + 3) % 24, "abcdefghijklmnopqrstuvwxyz"[k % 26]) for k in range(60)))
ALL_AT_ONE = (1, tuple((0, 0, "abc"[k % 3]) for k in range(60)))
WEBS = (EMPTY, LONELY, LOOP, SIDE_BY_SIDE, TRIANGLE, ONE_COMPANY, TWO_PARTS, FULL, ALL_AT_ONE)


def all_lists(thing):
    """The same thing with a list for each tuple."""
    if isinstance(thing, tuple):
        return [all_lists(one) for one in thing]
    return thing


def all_tuples(thing):
    """The same thing with a tuple for each list."""
    if isinstance(thing, list):
        return tuple(all_tuples(one) for one in thing)
    if isinstance(thing, tuple):
        return tuple(all_tuples(one) for one in thing)
    return thing


def ends_by_hand(web, place):
    found = []
    for number, (one, other, _) in enumerate(web[1]):
        if one == place:
            found.append((number, 0))
        if other == place:
            found.append((number, 1))
    return found


def all_plans(web, ends):
    """Every plan of these ends, each once: the first end stays alone, or goes with one of the others."""
    if not ends:
        yield [], []
        return
    first, rest = ends[0], ends[1:]
    for pairs, alone in all_plans(web, rest):
        yield pairs, [first] + alone
    for at, other in enumerate(rest):
        if web[1][first[0]][2] != web[1][other[0]][2]:
            for pairs, alone in all_plans(web, rest[:at] + rest[at + 1:]):
                yield [(first, other)] + pairs, alone


def star(companies):
    """A web whose place 0 has one end of a line of each of the companies."""
    return len(companies) + 1, tuple((0, k + 1, company) for k, company in enumerate(companies))


def knot(companies):
    """A web of one place with a loop of each of the companies."""
    return 1, tuple((0, 0, company) for company in companies)


def all_ends(web):
    return [(number, side) for number in range(len(web[1])) for side in (0, 1)]


def follows(web, end, following):
    """Whether the line begun by the first end ends where the other one begins, and is of another company."""
    one, other = web[1][end[0]], web[1][following[0]]
    return one[1 - end[1]] == other[following[1]] and one[2] != other[2]


def all_rides(web, begun=()):
    """Every ride of the web that goes on from what is begun, each once, from the least on."""
    for end in all_ends(web):
        if end[0] not in [gone[0] for gone in begun] and (not begun or follows(web, begun[-1], end)):
            yield [*begun, end]
            yield from all_rides(web, (*begun, end))


def rides_along_all(web):
    return [ride for ride in all_rides(web) if len(ride) == len(web[1])]


def rounds_along_all(web):
    return [ride for ride in rides_along_all(web) if follows(web, ride[-1], ride[0])]


def webs_of(places, many, companies):
    """Every web of so many places and lines, of each order of the lines one."""
    lines = list(itertools.product(range(places), range(places), companies))
    for chosen in itertools.combinations_with_replacement(lines, many):
        yield places, chosen


def webs_in_order(places, many, companies):
    """Every web of so many places and lines, in each order of the lines."""
    lines = list(itertools.product(range(places), range(places), companies))
    for chosen in itertools.product(lines, repeat=many):
        yield places, chosen


def mixed_web(seed, places, many, companies):
    """A web that looks as if by chance, the same one for the same seed."""
    chance = random.Random(seed)
    return places, tuple(
        (chance.randrange(places), chance.randrange(places), chance.choice(companies)) for _ in range(many)
    )


def round_web(seed, places, many, companies):
    """A web in mixed order that has a round along all its lines, and that round. Two lines at least."""
    chance = random.Random(seed)
    stops = [chance.randrange(places) for _ in range(many)]
    row = [companies[0]]
    while len(row) < many:
        row.append(chance.choice([company for company in companies if company != row[-1]]))
    if row[-1] == row[0]:
        row[-1] = [company for company in companies if company not in (row[0], row[-2])][0]
    sides = [chance.randrange(2) for _ in range(many)]
    order = list(range(many))
    chance.shuffle(order)
    lines = [None] * many
    for at, number in enumerate(order):
        one, other = stops[at], stops[(at + 1) % many]
        lines[number] = (other, one, row[at]) if sides[at] else (one, other, row[at])
    return (places, tuple(lines)), [(number, sides[at]) for at, number in enumerate(order)]
