"""A desk, on which the rows of a table are moved until none is wrong."""

from sortreason.arranging import arrangement
from sortreason.checks import is_between
from sortreason.errors import BadMove, NothingMoved
from sortreason.tables import Table, check_table


class Desk:
    """The rows of a table in an order that moves change, and a key."""

    def __init__(self, table, key):
        check_table(table)
        table.check_key(key)
        self._table = table
        self._key = key
        self._moves = []

    def __len__(self):
        return len(self._table.rows)

    def __bool__(self):
        return not self.wrong

    def __contains__(self, x):
        # Asked first, because (True,) is equal to (1,) but is no row.
        return self._table.is_possible(x) and x in self._table.rows

    def __getitem__(self, at):
        if not self._has(at):
            raise BadMove("not the index of a row")
        return self._table.rows[at]

    def __iter__(self):
        raise TypeError("a desk is not iterated over, the rows of its table are")

    @property
    def table(self):
        """The table with the rows as they are."""
        return self._table

    @property
    def wrong(self):
        """The pairs of indices whose rows the key turns round, in a new list."""
        return _wrong_pairs(self._table.all_ranks(self._key))

    @property
    def needed(self):
        """The least number of moves after which no pair is wrong: those of the rows that are not steady."""
        return len(self) - len(arrangement(self._table, self._key).steady)

    def move(self, index, to):
        """Move a row to another index, and return whether fewer pairs are wrong than before."""
        if not self._has(index):
            raise BadMove("not the index of a row")
        if not self._has(to) or to == index:
            raise BadMove("not another index of a row")
        before = len(self.wrong)
        self._move_row(index, to)
        self._moves.append((index, to))
        return len(self.wrong) < before

    def undo(self):
        """Take back the last move, and return it."""
        if not self._moves:
            raise NothingMoved("no move is left")
        index, to = self._moves.pop()
        self._move_row(to, index)
        return (index, to)

    def helpful(self):
        """Yield the moves after which fewer pairs are wrong, for the rows as they are at the first request."""
        # All of them are found first, because rows may be moved between two requests.
        found = self._helpful_moves()
        yield from found

    def _has(self, index):
        """Return whether a value is the index of a row."""
        return is_between(index, 0, len(self) - 1)

    def _move_row(self, index, to):
        """Move a row."""
        self._table = Table(self._table.columns, _moved(self._table.rows, index, to))

    def _helpful_moves(self):
        """Return the list of the moves after which fewer pairs are wrong."""
        ranks = self._table.all_ranks(self._key)
        wrong = len(_wrong_pairs(ranks))
        moves = [(index, to) for index in range(len(ranks)) for to in range(len(ranks)) if index != to]
        return [(index, to) for index, to in moves if len(_wrong_pairs(_moved(ranks, index, to))) < wrong]


def _wrong_pairs(ranks):
    """Return the pairs of indices, the smaller one first, of which the later rank is the smaller one."""
    many = len(ranks)
    return [(at, later) for at in range(many) for later in range(at + 1, many) if ranks[at] > ranks[later]]


def _moved(items, index, to):
    """Return a new list in which the item at one index stands at another one."""
    others = items[:index] + items[index + 1:]
    return others[:to] + [items[index]] + others[to:]
