"""Stage 4: as few rides as can be, and papers that show that fewer can't be."""

from changeride.kinds import is_below, is_row, is_row_of
from changeride.rides import far_end, is_ride, is_round, taken_in
from changeride.wants import groups_of, plan_at, want_of, wants
from changeride.webs import checked_web, ends_of, parts_of, places_in


def is_way(lines, thing):
    """Whether it is ("ride", ride) or ("round", round)."""
    if not is_row_of(thing, 2):
        return False
    word, way = thing
    return (word == "ride" and is_ride(lines, way)) or (word == "round" and is_round(lines, way))


def riding_is(web, riding):
    """Whether it is a riding of the web."""
    _, lines = checked_web(web)
    if not is_row(riding) or not all(is_way(lines, thing) for thing in riding):
        return False
    gone = [end[0] for _, way in riding for end in way]
    return sorted(gone) == list(range(len(lines)))


def rides_for(web, shown):
    """How many rides there are at the least, where so many ends of each place are shown to stay alone."""
    _, lines = web
    count = 0
    for part in parts_of(web):
        alone = sum([shown.get(place, 0) for place in places_in(lines, part)])
        count = count + max(1, (alone + 1) // 2)
    return count


def fewest(web):
    """How many rides and rounds are the fewest for the web."""
    own = checked_web(web)
    return rides_for(own, dict(enumerate(wants(own))))


def links_of(web):
    """What goes on at what: each end that the plans of the places pair up, with its partner."""
    places, _ = web
    links = {}
    for place in range(places):
        pairs, _ = plan_at(web, place)
        for end, other in pairs:
            links[end] = other
            links[other] = end
    return links


def way_from(links, end):
    """The way that begins a line by this end and goes on as the links tell, until it ends or is back."""
    way = [end]
    following = links.get(far_end(end))
    while following is not None and following != end:
        way.append(following)
        following = links.get(far_end(following))
    return way


def ways_of(links, part):
    """The rides and the rounds of a part that the links make, two lists."""
    ends = [(number, side) for number in part for side in (0, 1)]
    alone = [end for end in ends if end not in links]
    rides = []
    rings = []
    gone = set()
    # All rides begin by an end that stays alone, so what is left once these are gone along is rounds.
    for end in alone + ends:
        if end[0] not in gone:
            way = way_from(links, end)
            for number, _ in way:
                gone.add(number)
            if end in links:
                rings.append(way)
            else:
                rides.append(way)
    return rides, rings


def with_ring(lines, ways, closed, ring):
    """The ways, one of them with the ring taken in; None, where it meets none of them."""
    for at, way in enumerate(ways):
        fuller = taken_in(lines, way, closed, ring)
        if fuller is not None:
            return ways[:at] + [fuller] + ways[at + 1:]
    return None


def part_ridden(lines, links, part):
    """The riding of a part: all its rides, or its one round."""
    rides, rings = ways_of(links, part)
    closed = len(rides) == 0
    ways = rings[:1] if closed else rides
    waiting = rings[1:] if closed else rings
    while len(waiting) > 0:
        ring = waiting.pop(0)
        fuller = with_ring(lines, ways, closed, ring)
        # The part hangs together: what meets none of the ways as yet does once others are taken in.
        if fuller is None:
            waiting.append(ring)
        else:
            ways = fuller
    return [("round" if closed else "ride", way) for way in ways]


def riding(web):
    """A riding of the web of the fewest rides and rounds."""
    own = checked_web(web)
    _, lines = own
    links = links_of(own)
    return [way for part in parts_of(own) for way in part_ridden(lines, links, part)]


def shown_at(lines, place, reason):
    """How many ends the reason shows to stay alone at the place; 0 where it shows nothing, or is no reason."""
    ends = ends_of(lines, place)
    if reason == "odd":
        return len(ends) % 2
    same = [end for end in ends if lines[end[0]][2] == reason]
    return max(0, 2 * len(same) - len(ends))


def has_place(places, thing):
    """Whether it is a place and one thing more, be that a reason or none."""
    return is_row_of(thing, 2) and is_below(thing[0], places)


def shown_by(web, paper):
    """How many rides and rounds the paper shows to be the fewest; None, where it is no paper of the web."""
    own = checked_web(web)
    places, lines = own
    if not is_row(paper) or not all(has_place(places, thing) for thing in paper):
        return None
    shown = {place: shown_at(lines, place, reason) for place, reason in paper}
    if len(shown) < len(paper) or not all(shown.values()):
        return None
    return rides_for(own, shown)


def reason_of(groups, want):
    """Why so many of these groups' ends stay alone."""
    ends = sum([len(group) for group in groups.values()])
    for company, group in groups.items():
        if 2 * len(group) - ends == want:
            return company
    return "odd"


def paper_of(web):
    """A paper that shows the fewest."""
    places, lines = checked_web(web)
    paper = []
    for place in range(places):
        groups = groups_of(lines, place)
        want = want_of(groups)
        if want > 0:
            paper.append((place, reason_of(groups, want)))
    return paper
