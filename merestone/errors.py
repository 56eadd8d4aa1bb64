"""The errors of Merestone."""


class MerestoneError(ValueError):
    """What all errors of Merestone have in common."""


class BadCode(MerestoneError):
    """An op and three fields that are no instruction."""

    def __init__(self, op, a, b, c):
        self.op = op
        self.a = a
        self.b = b
        self.c = c


class Trap(MerestoneError):
    """The end of a step that is not carried out."""

    def __init__(self, cause, value):
        self.cause = cause
        self.value = value


class Malformed(MerestoneError):
    """A place in a text at which it does not have the form that it must have."""

    def __init__(self, line, column):
        self.line = line
        self.column = column


class Unknown(MerestoneError):
    """A name in a text that is not defined."""

    def __init__(self, name, line, column):
        self.name = name
        self.line = line
        self.column = column


class Twice(MerestoneError):
    """A name in a text that has been defined before."""

    def __init__(self, name, line, column):
        self.name = name
        self.line = line
        self.column = column


class OutOfRange(MerestoneError):
    """A place in a text at which an expression has a value that is not allowed."""

    def __init__(self, line, column):
        self.line = line
        self.column = column


class TooLarge(MerestoneError):
    """A text with more of something than there may be; the limit is named."""

    def __init__(self, limit):
        self.limit = limit


class BadConfig(MerestoneError):
    """A configuration that the judge refuses, with the fault that it found."""

    def __init__(self, fault):
        self.fault = fault


class BadState(MerestoneError):
    """Numbers that are no saved system, with what is wrong with them."""

    def __init__(self, why):
        self.why = why
