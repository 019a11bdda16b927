"""The errors that the program raises, one class for each kind of failure."""


class RowError(ValueError):
    """The base of all other errors."""


class BadText(RowError):
    """A text that is refused, at a token (from 1) or as a whole (0)."""

    def __init__(self, token, reason):
        super().__init__(f"at {token}: {reason}")
        self.token = token
        self.reason = reason


class TooLarge(RowError):
    """A type has more symbols than are told."""


class BadPaper(RowError):
    """A paper that is not right at a node, or has the wrong length (None)."""

    def __init__(self, node):
        super().__init__(f"not right at {node}")
        self.node = node


class BadEdit(RowError):
    """An edit of a book that is refused."""

    def __init__(self, reason):
        super().__init__(f"refused: {reason}")
        self.reason = reason


class BadJournal(RowError):
    """A journal with a line that is none."""

    def __init__(self, place):
        super().__init__(f"wrong line {place}")
        self.place = place


class BadArgument(RowError):
    """An argument that is refused."""

    def __init__(self, reason):
        super().__init__(f"wrong argument: {reason}")
        self.reason = reason
