"""Stage 6: the fewest new lines that make one round of all."""

from changeride.errors import NoCompany
from changeride.wants import wants
from changeride.webs import check_company, checked_web, parts_of, places_in


def new_stops(web):
    """The places that new lines have to come to, each as often as one does, part by part."""
    _, lines = web
    wanted = wants(web)
    parts = parts_of(web)
    stops = []
    for part in parts:
        places = places_in(lines, part)
        stopped = [place for place in places for _ in range(wanted[place])]
        # Among other parts, each has to be come to and left. A place without wants has two ends at least, of unlike
        # companies, so that two new ones never are too many there.
        if len(stopped) == 0 and len(parts) > 1:
            stopped = [places[0], places[0]]
        stops.extend(stopped)
    return stops


def new_needed(web):
    """The fewest new lines that must be added for a round along all."""
    return len(new_stops(checked_web(web))) // 2


def new_lines(web, company):
    """So many new lines of the company that with them behind the others the web has a round along all."""
    own = checked_web(web)
    check_company(company)
    if company in [line[2] for line in own[1]]:
        raise NoCompany("the company is there")
    stops = new_stops(own)
    # Each part has an even number of stops. Begun by the second one, the lines join the last stop of each part to the
    # first one of the next, and so all parts hang together.
    begun = stops[1:] + stops[:1]
    return [(one, other, company) for one, other in zip(begun[::2], begun[1::2])]
