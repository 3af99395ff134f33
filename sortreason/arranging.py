"""Which rows may stay as a key sorts a table, where a row belongs, and the sorted rows."""

from sortreason.checks import are_indices
from sortreason.tables import Table, check_table


class Arrangement:
    """The greatest number of steady rows, and as many falls, which show that no more are steady."""

    def __init__(self, steady, falls):
        self.steady = steady
        self.falls = list(falls)

    def __eq__(self, other):
        return isinstance(other, Arrangement) and self.steady == other.steady and self.falls == other.falls

    def shows(self, table, key):
        """Return whether the attributes are right, be the steady rows the first ones or not."""
        check_table(table)
        table.check_key(key)
        ranks = table.all_ranks(key)
        if not _are_steady(ranks, self.steady) or not all([_are_fall(ranks, fall) for fall in self.falls]):
            return False
        return len(self.steady) == len(self.falls) and _hold_each_once(self.falls, len(ranks))


def arrangement(table, key):
    """Return the Arrangement of a table under a key."""
    check_table(table)
    table.check_key(key)
    ranks = table.all_ranks(key)
    lengths = _steady_lengths(ranks)
    steady = _first_steady(ranks, lengths)
    return Arrangement(steady, [_rows_with(lengths, length + 1) for length in range(len(steady))])


def places(table, row, key):
    """Return the indices at which a row can be inserted so that the key turns it round with no row."""
    check_table(table)
    table.check_row(row)
    table.check_key(key)
    ranks = table.all_ranks(key)
    return [at for at in range(len(ranks) + 1) if _is_place(ranks, table.ranks(row, key), at)]


def sorted_rows(table, key):
    """Return the table with its rows sorted by a key; rows that it ties keep their order."""
    check_table(table)
    table.check_key(key)
    ranks = table.all_ranks(key)
    rows = table.rows
    found = list(rows)
    for at, row in enumerate(rows):
        found[_sorted_index(ranks, at)] = row
    return Table(table.columns, found)


def _steady_lengths(ranks):
    """Return, for each row, the greatest number of steady rows that begin with it."""
    lengths = [1] * len(ranks)
    for at in reversed(range(len(ranks))):
        for later in range(at + 1, len(ranks)):
            if ranks[at] <= ranks[later] and lengths[at] <= lengths[later]:
                lengths[at] = lengths[later] + 1
    return lengths


def _first_steady(ranks, lengths):
    """Return the first one of the greatest tuples of steady indices."""
    chosen = [_first_greatest(lengths)]
    for at in range(chosen[0] + 1, len(ranks)):
        last = chosen[-1]
        # Who takes the first index that still leads to the greatest number gets the first tuple.
        if ranks[last] <= ranks[at] and lengths[at] == lengths[last] - 1:
            chosen.append(at)
    return tuple(chosen)


def _first_greatest(lengths):
    """Return the index of the first one of the greatest lengths."""
    found = 0
    for at, length in enumerate(lengths):
        if length > lengths[found]:
            found = at
    return found


def _rows_with(lengths, length):
    """Return the indices of the rows with a length; they are a fall.

    If the key did not turn round two of them, the earlier one would begin more steady rows than the later one.
    """
    return tuple([at for at, each in enumerate(lengths) if each == length])


def _sorted_index(ranks, at):
    """Return the index of a row among the sorted rows: how many others come before it."""
    smaller = [rank for rank in ranks if rank < ranks[at]]
    # Of the rows that are tied with it, those come before it that stood before it.
    return len(smaller) + ranks[:at].count(ranks[at])


def _is_place(ranks, rank, at):
    """Return whether a row of a rank is turned round with no row if it stands at an index."""
    if not all([before <= rank for before in ranks[:at]]):
        return False
    return all([rank <= behind for behind in ranks[at:]])


def _are_steady(ranks, indices):
    """Return whether a value is a tuple of indices, ascending, of rows of which no two are turned round."""
    if not are_indices(indices, len(ranks)):
        return False
    # Ranks are in one order, so what holds for neighbours holds for all.
    return all([ranks[indices[at]] <= ranks[indices[at + 1]] for at in range(len(indices) - 1)])


def _are_fall(ranks, indices):
    """Return whether a value is a tuple of indices, ascending, of rows of which each two are turned round."""
    if not are_indices(indices, len(ranks)):
        return False
    return all([ranks[indices[at]] > ranks[indices[at + 1]] for at in range(len(indices) - 1)])


def _hold_each_once(falls, many):
    """Return whether each index of so many rows occurs in one of the falls, once."""
    indices = [at for fall in falls for at in fall]
    return len(indices) == many and all([at in indices for at in range(many)])
