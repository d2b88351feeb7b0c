"""Stage 8: webs and rides as texts, and read back."""

from changeride.errors import NoText
from changeride.webs import checked_web, web_of
from changeride.words import end_meant, end_word, is_end_word, read_row


def web_text(web):
    """The web's text."""
    places, lines = checked_web(web)
    return "\n".join([f"places {places}"] + [f"line {one} {other} {company}" for one, other, company in lines])


def ride_text(ride):
    """The text of a ride, or of any list of ends."""
    return " ".join([end_word(end) for end in ride])


def read_web(text):
    """The web that the text tells."""
    if not isinstance(text, str):
        raise NoText(1)
    head, *more = text.split("\n")
    rows = [read_row(head, {"places": "N"})] + [read_row(row, {"line": "NNC"}) for row in more]
    if None in rows:
        raise NoText(rows.index(None) + 1)
    return web_of(rows[0][1], [row[1:] for row in rows[1:]])


def read_ride(text):
    """The list of ends that the text tells, be it a ride or not."""
    if not isinstance(text, str):
        raise NoText(1)
    words = [] if text == "" else text.split(" ")
    if not all(is_end_word(word) for word in words):
        raise NoText(1)
    return [end_meant(word) for word in words]
