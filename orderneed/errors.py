"""The errors that Orderneed raises."""


class OrderError(ValueError):
    """The base class of all errors that Orderneed raises."""


class TextError(OrderError):
    """The base class of errors of a line; lines count from 1, and 0 is the whole text."""

    def __init__(self, line):
        OrderError.__init__(self, f"line {line}")
        self.line = line


class Malformed(TextError):
    """A line has none of the forms of a program text."""


class Misplaced(TextError):
    """A line does not fit into the order of the lines."""


class Unfit(TextError):
    """A state or a rule does not fit the numbers that are kept."""


class Doubled(TextError):
    """A rule has the state, the name and the position of an earlier rule."""


class TooMany(TextError):
    """There are too many outputs, states or characters."""


class Changed(TextError):
    """A line of a journal is not as it was written."""


class Repeated(TextError):
    """An output or a state has the name of an earlier one."""

    def __init__(self, line, word):
        TextError.__init__(self, line)
        self.word = word


class Unknown(TextError):
    """A rule names something that the program does not have."""

    def __init__(self, line, word):
        TextError.__init__(self, line)
        self.word = word


class Missing(OrderError):
    """A program has no rule for a state, a name and a position."""

    def __init__(self, state, name, position):
        OrderError.__init__(self, f"no rule for {state} {name} {position}")
        self.state = state
        self.name = name
        self.position = position


class InvalidCase(OrderError):
    """Programs and views do not make a case."""


class InvalidPromise(OrderError):
    """Items do not make a promise."""


class InvalidKept(OrderError):
    """A value is not what a receiver keeps."""


class InvalidParcel(OrderError):
    """A value is not a parcel."""


class TooLarge(OrderError):
    """A search would keep too many shapes."""


class Full(OrderError):
    """A sender or a receiver takes no more."""


class UnknownName(OrderError):
    """A promise does not have the name of a message."""

    def __init__(self, name):
        OrderError.__init__(self, f"unknown name {name}")
        self.name = name
