"""The errors that the package raises."""

from namesalone.plain import as_tuples


class NoName(LookupError):
    """A name is that of no box, or of no place."""

    def __init__(self, name):
        LookupError.__init__(self, name)
        self.name = name


class NoNumber(LookupError):
    """There is nothing with this number."""

    def __init__(self, number):
        LookupError.__init__(self, number)
        self.number = number


class NothingDone(LookupError):
    """There is no deed to take back."""

    def __init__(self):
        LookupError.__init__(self)


class Impossible(ValueError):
    """A move is not possible when its turn comes."""

    def __init__(self, move):
        self.move = as_tuples(move)
        ValueError.__init__(self, self.move)


class NoPlan(ValueError):
    """There is no plan."""

    def __init__(self):
        ValueError.__init__(self)


class NoRule(ValueError):
    """There is no right rule."""

    def __init__(self):
        ValueError.__init__(self)


class BadText(ValueError):
    """A text is not written as it must be."""

    def __init__(self):
        ValueError.__init__(self)


class BadLine(ValueError):
    """The line with this number is not written as it must be."""

    def __init__(self, number):
        ValueError.__init__(self, number)
        self.number = number
