"""Webs and wrong things that several test files use, and slow ways to work an answer out."""

NO_NUMBERS = (True, False, None, "0", "", "a", 0.0, b"0", [], (), [0], (0,), {}, {0: 0})
NO_COMPANIES = (True, False, None, 0, 1, "", "A", "Z", "aa", "ab", " ", "1", "`", "{", "a ", b"a", ["a"], ("a",), {})
NO_ENDS = NO_NUMBERS + (
    0,
    "00",
    (0, 0, 0),
    [0, 0, 0],
    (0, 2),
    (0, -1),
    (-1, 0),
    (True, 0),
    (False, 0),
    (0, True),
    (0, False),
    (0, None),
    (None, 0),
    ("0", 0),
    (0, "0"),
    (0.0, 0),
    (0, 0.0),
    ((0, 0),),
    ((0, 0), (0, 1)),
    (10 ** 29, 0),
    (0, 10 ** 29),
    {0: 0, 1: 1},
)

EMPTY = (0, ())
LONELY = (3, ())
LOOP = (1, ((0, 0, "a"),))
SIDE_BY_SIDE = (2, ((0, 1, "a"), (0, 1, "a"), (1, 0, "b")))
TRIANGLE = (3, ((0, 1, "a"), (1, 2, "b"), (2, 0, "c")))
ONE_COMPANY = (4, ((0, 1, "a"), (0, 2, "a"), (0, 3, "a"), (0, 0, "a")))
TWO_PARTS = (6, ((4, 5, "a"), (0, 1, "b"), (5, 5, "c"), (1, 2, "a"), (2, 0, "a")))
FULL = (24, tuple((k % 24, (k * 7 + 3) % 24, "abcdefghijklmnopqrstuvwxyz"[k % 26]) for k in range(60)))
ALL_AT_ONE = (1, tuple((0, 0, "abc"[k % 3]) for k in range(60)))
WEBS = (EMPTY, LONELY, LOOP, SIDE_BY_SIDE, TRIANGLE, ONE_COMPANY, TWO_PARTS, FULL, ALL_AT_ONE)


def all_lists(thing):
    """The same thing with a list for each tuple."""
    if isinstance(thing, tuple):
        return [all_lists(one) for one in thing]
    return thing


def all_tuples(thing):
    """The same thing with a tuple for each list."""
    if isinstance(thing, list):
        return tuple(all_tuples(one) for one in thing)
    if isinstance(thing, tuple):
        return tuple(all_tuples(one) for one in thing)
    return thing


def ends_by_hand(web, place):
    found = []
    for number, (one, other, _) in enumerate(web[1]):
        if one == place:
            found.append((number, 0))
        if other == place:
            found.append((number, 1))
    return found


def all_plans(web, ends):
    """Every plan of these ends, each once: the first end stays alone, or goes with one of the others."""
    if not ends:
        yield [], []
        return
    first, rest = ends[0], ends[1:]
    for pairs, alone in all_plans(web, rest):
        yield pairs, [first] + alone
    for at, other in enumerate(rest):
        if web[1][first[0]][2] != web[1][other[0]][2]:
            for pairs, alone in all_plans(web, rest[:at] + rest[at + 1:]):
                yield [(first, other)] + pairs, alone


def star(companies):
    """A web whose place 0 has one end of a line of each of the companies."""
    return len(companies) + 1, tuple((0, k + 1, company) for k, company in enumerate(companies))


def knot(companies):
    """A web of one place with a loop of each of the companies."""
    return 1, tuple((0, 0, company) for company in companies)
