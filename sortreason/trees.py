"""Trees that refute numbers of candidates.

The effect of a candidate is a tuple with what it does to each pair of neighbours: -1 if it puts the
rows in order, 0 if it ties them, 1 if it turns them round.
"""

EACH = "each"
TIED = "tied"
TURNED = "turned"
MOST_NODES = 20000
DEEPEST = 5


def is_tree(value):
    """Return whether a value is a tree that is not too large and not too deep."""
    total = 0
    level = [value]
    for _ in range(DEEPEST):
        total += len(level)
        if total > MOST_NODES or not _are_pairs(level):
            return False
        inner = _inside_others(level)
        if not all([isinstance(trees, tuple) for trees in inner]):
            return False
        # Asked before they are listed, because a tuple that occurs often can hold very many trees.
        if sum(map(len, inner)) > MOST_NODES:
            return False
        level = [tree for trees in inner for tree in trees]
    return not level


def is_refutation(effects, number, pairs, tree):
    """Return whether a tree refutes a number of candidates for open pairs."""
    word, inside = tree
    if number == 0:
        return word == TIED and inside in pairs
    if word != EACH or len(inside) != len(effects):
        return False
    for at in range(len(effects)):
        if not _refutes_one(effects, at, number, pairs, inside[at]):
            return False
    return True


def refutation(effects, number, pairs):
    """Return a tree that refutes a number of candidates for open pairs; no such key may explain them."""
    if number == 0:
        return (TIED, pairs[0])
    trees = [_answer(effects, effect, number, pairs) for effect in effects]
    return (EACH, tuple(trees))


def tied(effect, pairs):
    """Return the open pairs that a candidate leaves open."""
    return tuple([at for at in pairs if effect[at] == 0])


def turned(effect, pairs):
    """Return the open pairs that a candidate turns round."""
    return tuple([at for at in pairs if effect[at] == 1])


def _are_pairs(level):
    """Return whether all values of a level are tuples of two items."""
    return not [node for node in level if not isinstance(node, tuple) or len(node) != 2]


def _inside_others(level):
    """Return what is inside the pairs of a level that are no leaves, but None if their word is not "each"."""
    leaves = (TIED, TURNED)
    # Written out, as a call for each of very many pairs would take longer than all that is asked of it.
    # A subclass of texts could be equal to each of the words, and then it counts as "each".
    return [inside if isinstance(word, str) and word == EACH else None for word, inside in level
            if not isinstance(word, str) or word == EACH or word not in leaves
            or not isinstance(inside, int) or inside is True or inside is False]


def _refutes_one(effects, at, number, pairs, tree):
    """Return whether a tree refutes the keys of a number of candidates that begin with one."""
    word, inside = tree
    if word == TURNED:
        return inside in turned(effects[at], pairs)
    return is_refutation(effects, number - 1, tied(effects[at], pairs), tree)


def _answer(effects, effect, number, pairs):
    """Return a tree that refutes the keys of a number of candidates that begin with one."""
    wrong = turned(effect, pairs)
    if wrong:
        return (TURNED, wrong[0])
    return refutation(effects, number - 1, tied(effect, pairs))
