"""What kind a thing is that was handed in. Nothing here ever refuses."""


def is_whole(thing):
    """Whether it is a whole number: an int, but no truth."""
    return isinstance(thing, int) and not isinstance(thing, bool)


def is_below(thing, limit):
    """Whether it is a whole number from 0 on that is below the limit."""
    return is_whole(thing) and 0 <= thing < limit


def is_row(thing):
    """Whether it is a list or a tuple: either may be handed in for the other."""
    return isinstance(thing, (list, tuple))


def is_row_of(thing, length):
    """Whether it is a list or a tuple of so many things."""
    return is_row(thing) and len(thing) == length


def is_company(thing):
    """Whether it is a small letter."""
    return isinstance(thing, str) and len(thing) == 1 and "a" <= thing <= "z"
