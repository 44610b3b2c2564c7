"""The errors of the package, all of them direct subclasses of NearError."""


class NearError(ValueError):
    """Any error that this package raises on purpose."""


class NoList(NearError):
    """What should be a list is none."""


class BadWidth(NearError):
    """A width is no integer from 1 to 3."""


class BadArity(NearError):
    """An arity is no integer in its range."""


class BadRow(NearError):
    """An element of a list of rows is no row."""

    def __init__(self, number):
        super().__init__(f"element {number} is no row of the table")
        self.number = number


class BadCell(NearError):
    """A cell is no value."""

    def __init__(self, number):
        super().__init__(f"cell {number} is no value of the width")
        self.number = number


class BadLength(NearError):
    """There are more or fewer cells than needed."""


class BadSpots(NearError):
    """Something is no position, or no tuple of positions."""


class BadOrder(NearError):
    """An order is no list of all values, each once."""


class Unlike(NearError):
    """Two things do not fit together."""


class BadArguments(NearError):
    """Something is no argument of an operation or a fold."""


class BadTable(NearError):
    """An element of a list of tables is no table of the width."""

    def __init__(self, number):
        super().__init__(f"element {number} is no table of the width")
        self.number = number


class NoNumber(NearError):
    """Something is no number of a table or a row."""

    def __init__(self, number):
        super().__init__(f"nothing has the number {number}")
        self.number = number


class BadPlaces(NearError):
    """Something is no number of places, or no place."""


class BadUse(NearError):
    """Something is no row of a puzzle."""

    def __init__(self, number):
        super().__init__(f"row {number} is no row of a puzzle over the book")
        self.number = number


class BadAnswer(NearError):
    """Something is no tuple of a value for each place."""


class BadChoice(NearError):
    """Something is no choice of the puzzle."""


class HasAnswer(NearError):
    """A puzzle has an answer where none should be."""

    def __init__(self, answer):
        super().__init__(f"the puzzle has the answer {answer}")
        self.answer = answer


class NoFold(NearError):
    """A fold does not keep a table of the book."""

    def __init__(self, number):
        super().__init__(f"the fold does not keep table {number}")
        self.number = number


class NoMeet(NearError):
    """An operation is no meet."""


class BadNear(NearError):
    """Something is no number of places to look at."""


class NoMark(NearError):
    """Something is no number of a mark that stands."""

    def __init__(self, number):
        super().__init__(f"no mark {number} stands")
        self.number = number


class BadText(NearError):
    """A line of a text is wrong."""

    def __init__(self, line):
        super().__init__(f"line {line} of the text is wrong")
        self.line = line
