"""Words of texts and rows: numbers, companies and ends. Nothing here ever refuses."""

from changeride.kinds import is_company


def is_number(word):
    """Whether it is a whole number from 0 on, without noughts ahead."""
    return word == "0" or (word.isascii() and word.isdigit() and not word.startswith("0"))


def is_end_word(word):
    """Whether it is an end's word."""
    return word[-1:] in ("+", "-") and is_number(word[:-1])


def end_word(end):
    """An end's word: its line, and how it is gone along."""
    number, side = end
    return f"{number}+" if side == 0 else f"{number}-"


def end_meant(word):
    """The end that an end's word means."""
    return int(word[:-1]), 0 if word.endswith("+") else 1


def fits(word, kind):
    """Whether a word is of a kind: N a number, C a company, E an end or `*` for any."""
    if kind == "N":
        return is_number(word)
    if kind == "C":
        return is_company(word)
    return word == "*" or is_end_word(word)


def meant(word, kind):
    """What a word of a kind means, where it fits."""
    if kind == "N":
        return int(word)
    if kind == "C":
        return word
    return None if word == "*" else end_meant(word)


def read_row(row, forms):
    """A list of the row's first word and what the others mean; None, where it is of none of the forms.

    The forms tell, by the first word, of what kinds the others are.
    """
    first, *words = row.split(" ")
    kinds = forms.get(first)
    if kinds is None or len(words) != len(kinds):
        return None
    if not all(fits(word, kind) for word, kind in zip(words, kinds)):
        return None
    return [first] + [meant(word, kind) for word, kind in zip(words, kinds)]
