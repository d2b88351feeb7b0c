"""Stage 9: a desk, which is told and asked by rows."""

from changeride.added import new_lines
from changeride.errors import NoForm, NoneYet
from changeride.riding import fewest, paper_of, riding
from changeride.texts import ride_text
from changeride.told import ride_by, round_of
from changeride.wants import wants
from changeride.webs import merged, painted, web_of, with_line, without_line
from changeride.words import read_row

FORMS = {
    "places": "N",
    "line": "NNC",
    "shut": "N",
    "paint": "NC",
    "merge": "CC",
    "wants": "",
    "fewest": "",
    "riding": "",
    "paper": "",
    "round": "",
    "from": "EE",
    "new": "C",
    "undo": "",
}


def read_asked(row):
    """A list of the row's first word and what the others mean."""
    asked = read_row(row, dict(FORMS)) if isinstance(row, str) else None
    if asked is None:
        raise NoForm("the row is of no form")
    return asked


def changed(web, asked):
    """The web as the row changes it; None, where it is no row that changes it."""
    match asked:
        case ["places", places]:
            return web_of(places, [])
        case ["line", one, other, company]:
            return with_line(web, one, other, company)
        case ["shut", number]:
            return without_line(web, number)
        case ["paint", number, company]:
            return painted(web, number, company)
        case ["merge", company, other]:
            return merged(web, company, other)
    return None


def joined(words, between):
    """The words in one text, or `none` where there is none of them."""
    return between.join(words) if len(words) > 0 else "none"


def way_text(word, way):
    """The text of a riding's ride or round."""
    return "!" + ride_text(way) if word == "round" else ride_text(way)


def told_ride(ride):
    """The ride's text, or `none` for None."""
    return "none" if ride is None else ride_text(ride)


def told_of(web, asked):
    """The answer to a row that asks for something of the web."""
    match asked:
        case ["wants"]:
            return joined([str(want) for want in wants(web)], " ")
        case ["fewest"]:
            return str(fewest(web))
        case ["riding"]:
            return joined([way_text(word, way) for word, way in riding(web)], "; ")
        case ["paper"]:
            return joined([f"{place}:{reason}" for place, reason in paper_of(web)], " ")
        case ["round"]:
            return told_ride(round_of(web))
        case ["from", first, last]:
            return told_ride(ride_by(web, first=first, last=last))
    return joined([f"{one}-{other}" for one, other, _ in new_lines(web, asked[1])], " ")


class Desk:
    """A web, and what it was before each row that changed it."""

    def __init__(self):
        self._web = web_of(0, [])
        self._before = []

    def say(self, row):
        """The answer to the row, which may change the web."""
        asked = read_asked(row)
        if asked[0] == "undo":
            return self._undo()
        web = changed(self._web, asked)
        if web is None:
            return told_of(self._web, asked)
        self._before.append(self._web)
        self._web = web
        return str(len(web[1]) - 1) if asked[0] == "line" else "ok"

    def _undo(self):
        """Brings back the web as it was before the last change."""
        if len(self._before) == 0:
            raise NoneYet("nothing is left to be undone")
        self._web = self._before.pop()
        return "ok"
