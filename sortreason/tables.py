"""Tables of rows, and rows that are compared under a key."""

from sortreason.checks import NUMBERS, is_between, is_kind, is_name
from sortreason.errors import BadKey, BadRow, BadTable
from sortreason.keys import Ending, Key, Part, Plain, Rest, Size

MOST_COLUMNS = 3
FEWEST_ROWS = 2
MOST_ROWS = 8
LARGEST = 99


class Table:
    """Rows in an order, with a cell for each column."""

    def __init__(self, columns, rows):
        if not _are_columns(columns):
            raise BadTable("the columns are not 1 to 3 names of numbers or words", "COLUMNS")
        if not isinstance(rows, (list, tuple)) or not FEWEST_ROWS <= len(rows) <= MOST_ROWS:
            raise BadTable("the rows are not a list or tuple of 2 to 8 rows")
        kinds = list(columns.values())
        for at, row in enumerate(rows):
            if not _is_row(row, kinds):
                raise BadTable("a row is not a tuple of cells for the columns", at)
        # As pairs, because equal tables have the columns in the same order, and dicts ignore it.
        self._columns = tuple(columns.items())
        self._rows = tuple(rows)

    def __eq__(self, other):
        return isinstance(other, Table) and self._columns == other._columns and self._rows == other._rows

    @property
    def columns(self):
        """The kinds of the columns by their names, in a new dict."""
        return dict(self._columns)

    @property
    def rows(self):
        """The rows, in a new list."""
        return list(self._rows)

    @property
    def pairs(self):
        """The indices of the pairs of neighbours, in a new list."""
        return list(range(len(self._rows) - 1))

    def place(self, row, key):
        """Return the measures of a row, part by part."""
        self.check_row(row)
        self.check_key(key)
        cells = self._cells(row, key)
        return [part.measure.of(cell) for part, cell in zip(key.parts, cells)]

    def compared(self, row, other, key):
        """Return -1 if the key puts two rows in order, 0 if it ties them, 1 if it turns them round."""
        self.check_row(row)
        self.check_row(other)
        self.check_key(key)
        first = self.ranks(row, key)
        second = self.ranks(other, key)
        if first == second:
            return 0
        return -1 if first < second else 1

    def candidates(self):
        """Yield the candidates, column by column, each measure up and then down."""
        for name, kind in self._columns:
            for measure in _measures(name, kind):
                yield Part(measure)
                yield Part(measure, down=True)

    def ranks(self, row, key):
        """Return the ranks of a row that fits, part by part: the smaller, the earlier it comes."""
        cells = self._cells(row, key)
        return tuple([part.rank(cell) for part, cell in zip(key.parts, cells)])

    def all_ranks(self, key):
        """Return the ranks of all rows, row by row."""
        return [self.ranks(row, key) for row in self._rows]

    def is_possible(self, row):
        """Return whether a value is a row of a table with these columns."""
        return _is_row(row, list(self.columns.values()))

    def check_row(self, row):
        """Raise BadRow if a row does not fit the columns."""
        if not self.is_possible(row):
            raise BadRow("not a row of a table with these columns")

    def check_key(self, key):
        """Raise BadKey if a key does not fit the columns."""
        if not isinstance(key, Key):
            raise BadKey("not a Key")
        kinds = self.columns
        for part in key.parts:
            measure = part.measure
            if measure.name not in kinds or not measure.fits(kinds[measure.name]):
                raise BadKey("a measure is not possible for the columns")

    def _cells(self, row, key):
        """Return the cells of a row that the parts of a key measure."""
        names = list(self.columns)
        return [row[names.index(part.measure.name)] for part in key.parts]


class Ranked:
    """A row under a key, compared with other rows of the table under that key."""

    def __init__(self, table, row, key):
        check_table(table)
        table.check_row(row)
        table.check_key(key)
        self._row = row
        self._ranks = table.ranks(row, key)

    def __eq__(self, other):
        return isinstance(other, Ranked) and self._ranks == other._ranks

    def __lt__(self, other):
        if not isinstance(other, Ranked):
            return NotImplemented
        return self._ranks < other._ranks

    @property
    def row(self):
        """The row."""
        return self._row


def check_table(table):
    """Raise BadTable if an argument is not a Table."""
    if not isinstance(table, Table):
        raise BadTable("not a Table")


def _are_columns(columns):
    """Return whether a value is a dict of 1 to 3 columns."""
    if not isinstance(columns, dict) or not 1 <= len(columns) <= MOST_COLUMNS:
        return False
    return all([is_name(name) and is_kind(kind) for name, kind in columns.items()])


def _is_row(row, kinds):
    """Return whether a value is a tuple with a cell for each of the kinds."""
    if not isinstance(row, tuple) or len(row) != len(kinds):
        return False
    return all([_is_cell(cell, kind) for cell, kind in zip(row, kinds)])


def _is_cell(cell, kind):
    """Return whether a value is a cell of a column of this kind."""
    if kind == NUMBERS:
        return is_between(cell, -LARGEST, LARGEST)
    return is_name(cell)


def _measures(name, kind):
    """Return the measures of a column that candidates have, in order."""
    if kind == NUMBERS:
        return [Plain(name), Size(name), Rest(name, 2), Rest(name, 3)]
    return [Plain(name), Size(name), Ending(name)]
