"""What several files ask of values of any kind that are handed in."""

from nearsettled.errors import BadArity, BadNear, BadOrder, BadWidth

GREATEST_WIDTH = 3


def is_between(value, least, greatest):
    """Whether a value, of any value, is an integer within bounds."""
    # Python's bools are ints, but no integers of the document.
    return isinstance(value, int) and not isinstance(value, bool) and least <= value <= greatest


def is_below(value, limit):
    """Whether a value, of any value, is an integer from 0 on and below a limit."""
    return is_between(value, 0, limit - 1)


def is_row(value, width, length):
    """Whether a value, of any value, is a tuple of so many values of a width."""
    return isinstance(value, tuple) and len(value) == length and all([is_below(part, width) for part in value])


def is_set(value, width):
    """Whether a value, of any value, is a set: an ascending tuple of one or more values, each once."""
    if not isinstance(value, tuple) or value == () or not is_row(value, width, len(value)):
        return False
    return list(value) == sorted(set(value))


def are_numbers(value, limit):
    """Whether a value, of any value, is an ascending list of numbers below a limit, each once."""
    if not isinstance(value, list) or not all([is_below(number, limit) for number in value]):
        return False
    return value == sorted(set(value))


def check_width(width):
    """Raise BadWidth() if width, of any value, is none."""
    if not is_between(width, 1, GREATEST_WIDTH):
        raise BadWidth()


def check_arity(arity, greatest):
    """Raise BadArity() if arity, of any value, is no integer from 1 to the greatest."""
    if not is_between(arity, 1, greatest):
        raise BadArity()


def check_order(order, width):
    """Raise BadOrder() if order, of any value, is no list of all values of a width, each once."""
    if not isinstance(order, list) or not is_row(tuple(order), width, width) or len(set(order)) < width:
        raise BadOrder()


def check_near(near, width, least):
    """Raise BadNear() if near, of any value, is no number of places to look at, from the least on, for a width."""
    greatest = 2 if width == GREATEST_WIDTH else 3
    if not is_between(near, least, greatest):
        raise BadNear()
