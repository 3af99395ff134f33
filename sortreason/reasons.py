"""Which keys explain the order of a table, and which is the shortest one made of candidates."""

from sortreason.checks import are_indices, is_between, is_integer
from sortreason.errors import BadNumber, BadPairs, BadTree
from sortreason.keys import Key
from sortreason.tables import check_table
from sortreason.trees import TIED, TURNED, is_refutation, is_tree, refutation, tied, turned

MOST_CANDIDATES = 3


class Reason:
    """The shortest key that explains a table, its deciders, and a tree that refutes one part less."""

    def __init__(self, key, deciders, tree):
        self.key = key
        self.deciders = deciders
        self.tree = tree

    def __eq__(self, other):
        return (isinstance(other, Reason) and self.key == other.key and self.deciders == other.deciders
                and self.tree == other.tree)

    def shows(self, table):
        """Return whether the attributes are right for a table, be the key the first one or not."""
        check_table(table)
        if len(self.key) > MOST_CANDIDATES or not _are_candidates(table, self.key.parts):
            return False
        if not all([is_integer(at) for at in self.deciders]):
            return False
        # A key that does not explain the table has None for deciders.
        return self.deciders == deciders(table, self.key) and _is_refuted(table, len(self.key) - 1, self.tree)


class NoReason:
    """A tree that refutes 3 parts: no key of at most 3 candidates explains the table."""

    def __init__(self, tree):
        self.tree = tree

    def __eq__(self, other):
        return isinstance(other, NoReason) and self.tree == other.tree

    def shows(self, table):
        """Return whether the tree is right for a table."""
        check_table(table)
        return _is_refuted(table, MOST_CANDIDATES, self.tree)


def explains(table, key):
    """Return whether a key explains a table."""
    return first_fault(table, key) is None


def deciders(table, key):
    """Return the index of the part that decides, for each pair, or None if the key does not explain."""
    if not explains(table, key):
        return None
    ranks = table.all_ranks(key)
    return tuple([_decider(ranks[at], ranks[at + 1]) for at in table.pairs])


def first_fault(table, key):
    """Return the first pair that a key ties or turns round, with the word for that, or None."""
    check_table(table)
    table.check_key(key)
    rows = table.rows
    for at in table.pairs:
        order = table.compared(rows[at], rows[at + 1], key)
        if order == 0:
            return (at, TIED)
        if order == 1:
            return (at, TURNED)
    return None


def refutes(table, number, pairs, tree):
    """Return whether a tree refutes a number of parts for open pairs."""
    check_table(table)
    if not is_between(number, 0, MOST_CANDIDATES):
        raise BadNumber("not a number of parts from 0 to 3")
    if not are_indices(pairs, len(table.pairs)):
        raise BadPairs("not a tuple of indices of pairs, ascending")
    if not is_tree(tree):
        raise BadTree("not a tree, or it has more than 20000 nodes, or is more than 5 deep")
    return is_refutation(_effects(table), number, pairs, tree)


def reason(table):
    """Return the Reason of a table, or a NoReason if it has none."""
    check_table(table)
    effects = _effects(table)
    pairs = tuple(table.pairs)
    for number in range(1, MOST_CANDIDATES + 1):
        indices = _first_key(effects, number, pairs)
        if indices is not None:
            key = _key_of(table, indices)
            return Reason(key, deciders(table, key), refutation(effects, number - 1, pairs))
    return NoReason(refutation(effects, MOST_CANDIDATES, pairs))


def _effects(table):
    """Return the effect of each candidate."""
    names = list(table.columns)
    rows = table.rows
    found = []
    for part in table.candidates():
        at = names.index(part.measure.name)
        found.append(_effect(part, [row[at] for row in rows]))
    return found


def _effect(part, cells):
    """Return what a part does to each pair of rows that have these cells: -1, 0 or 1."""
    # The cells are compared here, as `compared` would check the rows and the key for each pair anew.
    measure = part.measure
    found = [measure.of(cell) for cell in cells]
    if part.down:
        return tuple([_order(later, earlier) for earlier, later in zip(found, found[1:])])
    return tuple([_order(earlier, later) for earlier, later in zip(found, found[1:])])


def _order(one, other):
    """Return -1 if a measure comes before another one upwards, 0 if they are the same, otherwise 1."""
    if one == other:
        return 0
    return -1 if one < other else 1


def _first_key(effects, number, pairs):
    """Return the indices of the first so many candidates that leave no pair open, or None."""
    if number == 0:
        return None if pairs else []
    for at, effect in enumerate(effects):
        if not turned(effect, pairs):
            others = _first_key(effects, number - 1, tied(effect, pairs))
            if others is not None:
                return [at] + others
    return None


def _key_of(table, indices):
    """Return the key of the candidates with these indices."""
    parts = list(table.candidates())
    chosen = [parts[at] for at in indices]
    return Key(*chosen)


def _decider(ranks, others):
    """Return the index of the first part that does not tie two rows; there must be one."""
    at = 0
    while ranks[at] == others[at]:
        at += 1
    return at


def _are_candidates(table, parts):
    """Return whether all of some parts are candidates of a table."""
    allowed = list(table.candidates())
    return all([part in allowed for part in parts])


def _is_refuted(table, number, tree):
    """Return whether a tree refutes a number of candidates for all pairs."""
    return is_tree(tree) and is_refutation(_effects(table), number, tuple(table.pairs), tree)
