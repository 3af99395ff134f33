"""The errors that the package raises."""


class SortError(ValueError):
    """The base of every error of the package."""


class BadTable(SortError):
    """Not a table; `part` is "COLUMNS", the index of a wrong row, or None."""

    def __init__(self, why="", part=None):
        super().__init__(why)
        self.part = part


class BadMeasure(SortError):
    """Not a measure, or not an argument of one."""


class BadKey(SortError):
    """Not a key, not one for the columns of a table, or not an index in one."""


class BadRow(SortError):
    """Not a row of a table with these columns."""


class BadPairs(SortError):
    """Not open pairs of a table."""


class BadNumber(SortError):
    """Not a number of parts."""


class BadTree(SortError):
    """Not a tree, or one that is too large or too deep."""


class BadMove(SortError):
    """Not a move on a desk, or not an index of a row there."""


class NothingMoved(SortError):
    """No move is left to take back."""


class BadText(SortError):
    """Not the text of a table or a key; `line` is the index of the wrong line."""

    def __init__(self, why="", line=0):
        super().__init__(why)
        self.line = line
