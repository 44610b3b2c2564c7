"""What several tests use: values of all the kinds that the document calls "of any value", and raised errors."""

from nearsettled.errors import NearError


def nested(levels):
    """A list in a list in a list, so many levels deep."""
    value = []
    for _ in range(levels - 1):
        value = [value]
    return value


ODD = [
    None, True, False, -1, 0, 1, 2, 3, 4, 10 ** 39, -10 ** 39, "", "1", "word", (), (0,), (1, 1), (True,), (None,),
    ((0, 1),), (0, [1]), [], [0], [0, 1], [[0, 1]], [None], nested(30), (nested(29),),
]


def odd_but(*good):
    """The odd values but those that are equal to a good one and of its very type."""
    return [value for value in ODD if not any(type(value) is type(one) and value == one for one in good)]


def raised(function, *arguments, **named):
    """The type and the attributes of the error that a call raises."""
    try:
        function(*arguments, **named)
    except NearError as error:
        return type(error), vars(error)
    return None
