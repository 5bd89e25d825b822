"""The errors of the package."""


class WalkError(ValueError):
    """Something is not what it should be."""


class InvalidName(WalkError):
    """A name is none."""


class InvalidSchema(WalkError):
    """A schema is none."""


class InvalidWord(WalkError):
    """A word of a schema is none."""


class InvalidExpression(WalkError):
    """An expression over a schema is none."""


class InvalidQuestion(WalkError):
    """A question is none."""


class InvalidGraph(WalkError):
    """A graph of a schema, or an edge of one, is none."""


class InvalidOperation(WalkError):
    """These arguments do not go together."""


class ParseError(WalkError):
    """A text stops being readable at an index."""

    def __init__(self, index):
        self.index = index


class InvalidNumber(IndexError):
    """A value is no number, or none of those that are asked for."""

    def __init__(self, value):
        self.value = value

    def __str__(self):
        return repr(self.value)


class UnknownName(KeyError):
    """A value is none of the names that are known."""

    def __init__(self, name):
        self.name = name

    def __str__(self):
        return repr(self.name)


class TooMany(OverflowError):
    """A result has more parts than the limit."""

    def __init__(self, limit):
        self.limit = limit


class NothingToUndo(LookupError):
    """There are fewer calls to undo, or to redo, than so many."""

    def __init__(self, many):
        self.many = many


class Missing(ArithmeticError):
    """An edge is not there."""

    def __init__(self, edge):
        self.edge = edge
