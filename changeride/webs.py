"""Stage 1: webs, the ends at their places, their parts, and webs made otherwise."""

from changeride.errors import NoCompany, NoEnd, NoLine, NoPlace, NoWeb
from changeride.kinds import is_below, is_company, is_row, is_row_of, is_whole


def web_of(places, lines):
    """The web of so many places and of these lines."""
    if not is_whole(places) or places < 0:
        raise NoWeb("the places are no whole number from 0 on")
    if not is_row(lines):
        raise NoWeb("the lines are no list")
    for line in lines:
        if not is_line(places, line):
            raise NoWeb("a line is not of two places and a company")
    return places, tuple([tuple(line) for line in lines])


def is_line(places, thing):
    """Whether it is a line that a web of so many places can have."""
    if not is_row_of(thing, 3):
        return False
    return is_below(thing[0], places) and is_below(thing[1], places) and is_company(thing[2])


def is_end(lines, thing):
    """Whether it is an end of one of the lines."""
    return is_row_of(thing, 2) and is_below(thing[0], len(lines)) and is_below(thing[1], 2)


def checked_web(web):
    """The web that was handed in, as a web of our own, all of it tuples."""
    if not is_row_of(web, 2):
        raise NoWeb("a web is of places and lines")
    return web_of(web[0], web[1])


def check_place(places, place):
    """Refuses what is none of so many places."""
    if not is_below(place, places):
        raise NoPlace("there is no such place")


def check_line(lines, line):
    """Refuses what is the number of none of the lines."""
    if not is_below(line, len(lines)):
        raise NoLine("there is no such line")


def check_company(company):
    """Refuses what is no small letter."""
    if not is_company(company):
        raise NoCompany("a company is a small letter")


def ends_of(lines, place):
    """The ends that these lines, already checked, have at the place, sorted."""
    return [(number, side) for number, line in enumerate(lines) for side in (0, 1) if line[side] == place]


def ends_at(web, place):
    """The ends at a place of the web, sorted."""
    places, lines = checked_web(web)
    check_place(places, place)
    return ends_of(lines, place)


def head_of(heads, one):
    """The one that stands for all that are known to hang together with this one."""
    while heads[one] != one:
        one = heads[one]
    return one


def parts_of(web):
    """The parts of the web: lists of line numbers that hang together by places."""
    _, lines = checked_web(web)
    heads = {}
    for one, other, _ in lines:
        heads.setdefault(one, one)
        heads.setdefault(other, other)
        heads[head_of(heads, one)] = head_of(heads, other)
    parts = {}
    # Lines come in rising, so each part does, and the parts come by their first lines.
    for number, line in enumerate(lines):
        parts.setdefault(head_of(heads, line[0]), []).append(number)
    return list(parts.values())


def places_in(lines, part):
    """The places that the lines of a part come to, sorted."""
    return sorted({place for number in part for place in lines[number][:2]})


def with_line(web, one, other, company):
    """The web with a line more, behind the others."""
    places, lines = checked_web(web)
    check_place(places, one)
    check_place(places, other)
    check_company(company)
    return places, lines + ((one, other, company),)


def without_line(web, line):
    """The web without a line; the lines behind it are numbered one less."""
    places, lines = checked_web(web)
    check_line(lines, line)
    return places, lines[:line] + lines[line + 1:]


def replaced(lines, number, line):
    """The lines with another one in the place of the one of that number."""
    return lines[:number] + (line,) + lines[number + 1:]


def painted(web, line, company):
    """The web with a line of another company."""
    places, lines = checked_web(web)
    check_line(lines, line)
    check_company(company)
    one, other, _ = lines[line]
    return places, replaced(lines, line, (one, other, company))


def merged(web, company, other):
    """The web with all lines of the first company of the other one."""
    places, lines = checked_web(web)
    check_company(company)
    check_company(other)
    changed = [(line[0], line[1], other if line[2] == company else line[2]) for line in lines]
    return places, tuple(changed)


def loosened(web, end):
    """The web with one end of a line taken to a new place, behind the others."""
    places, lines = checked_web(web)
    if not is_end(lines, end):
        raise NoEnd("there is no such end")
    number, side = end
    one, other, company = lines[number]
    moved = (places, other, company) if side == 0 else (one, places, company)
    return places + 1, replaced(lines, number, moved)
