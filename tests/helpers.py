"""What several tests use: values of all the kinds that the document calls "of any value", and raised errors."""

from nearsettled.errors import NearError


def nested(levels):
    """A list in a list in a list, so many levels deep."""
    value = []
    for _ in range(levels - 1):
        value = [value]
    return value


ODD = [
    None, True, False, -1, 0, 1, 2, 3, 4, 10 ** 39, -10 ** 39, "", "1", "word", (), (0,), (1, 1), (True,), (None,),
    ((0, 1),), (0, [1]), [], [0], [0, 1], [[0, 1]], [None], nested(30), (nested(29),),
]


# No choices of a puzzle of three places with two values.
WRONG_CHOICES = [
    ((0, 2),), ((3, 0),), ((-1, 0),), ((0, -1),), ((0, 0), (0, 0)), ((0, 0), (0, 1)), ((1, 0), (0, 0)),
    ((0, True),), ((False, 0),), ((0,),), ((0, 0, 0),), ([0, 0],), [(0, 0)], [], {}, (0, 0), ((0, 0), None),
    ((0, 0), (2, 0), (1, 0)), (("0", 0),), ((None, 0),), ((0, None),), (((0,), 0),), "", ((0, 0), (3, 1)),
]


def odd_but(*good):
    """The odd values but those that are equal to a good one and of its very type."""
    return [value for value in ODD if not any(type(value) is type(one) and value == one for one in good)]


def raised(function, *arguments, **named):
    """The type and the attributes of the error that a call raises."""
    try:
        function(*arguments, **named)
    except NearError as error:
        return type(error), vars(error)
    return None


def otherwise(value):
    """Values that are a value with one part otherwise, at any depth, or something quite different."""
    yield from ODD
    yield from near(value)


def near(value):
    """Values that are a value with one part otherwise: changed, of another kind, lacking, doubled, exchanged."""
    if value is None:
        yield from [0, False, ()]
    elif isinstance(value, int):
        yield from [value + 1, value - 1, -value, bool(value), str(value), (value,), [value], None]
    elif isinstance(value, str):
        yield from [value + " ", value.upper(), "", "broken", "split", "yes", "no", [value], None]
    else:
        kind = type(value)
        yield list(value) if kind is tuple else tuple(value)
        yield from [kind(), None]
        parts = list(value)
        for at, part in enumerate(parts):
            yield kind(parts[:at] + parts[at + 1:])
            yield kind(parts[:at] + [part] + parts[at:])
            if at > 0:
                yield kind(parts[:at - 1] + [part, parts[at - 1]] + parts[at + 1:])
            for other in near(part):
                yield kind(parts[:at] + [other] + parts[at + 1:])


def lists_in(value):
    """The lists that a value is built from, itself among them."""
    found = [value] if isinstance(value, list) else []
    if isinstance(value, (list, tuple)):
        for part in value:
            found += lists_in(part)
    return found


def spoil(value):
    """Change all lists that a value is built from."""
    for some in lists_in(value):
        some.append("spoiled")
