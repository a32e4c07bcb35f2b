"""The refusals. Each stands directly under TellError, so that none is taken for another one."""


class TellError(ValueError):
    """Any refusal."""


class BadTree(TellError):
    """No tree; `place` is the first place that can't be."""

    def __init__(self, place):
        TellError.__init__(self, f"no tree: the place {place} can't be")
        self.place = place


class BadBook(TellError):
    """No book; `number` is that of the first rule that can't be."""

    def __init__(self, number):
        TellError.__init__(self, f"no book: the rule {number} can't be")
        self.number = number


class BadPlace(TellError):
    """The tree has no such place."""


class TooBig(TellError):
    """What is told has too many parts."""


class TooMany(TellError):
    """There are too many trees, or too many sets."""


class NotKeeping(TellError):
    """The book keeps no shape; `number` is that of the first rule by which it doesn't."""

    def __init__(self, number):
        TellError.__init__(self, f"the rule {number} keeps no shape")
        self.number = number


class BadState(TellError):
    """No state."""


class BadPairs(TellError):
    """No list of pairs of states."""


class BadText(TellError):
    """No text of a tree or a book; `number` is the first sign or row that can't be."""

    def __init__(self, number):
        TellError.__init__(self, f"the text can't be from number {number} on")
        self.number = number
