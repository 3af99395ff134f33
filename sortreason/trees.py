"""Trees that refute numbers of candidates.

The effect of a candidate is a tuple with what it does to each pair of neighbours: -1 if it puts the
rows in order, 0 if it ties them, 1 if it turns them round.
"""

from sortreason.checks import is_integer

EACH = "each"
TIED = "tied"
TURNED = "turned"
MOST_NODES = 20000
DEEPEST = 5


def is_tree(value):
    """Return whether a value is a tree that is not too large and not too deep."""
    total = 0
    level = [value]
    for _ in range(DEEPEST):
        total += len(level)
        if total > MOST_NODES or not all([_is_node(node) for node in level]):
            return False
        inner = [inside for word, inside in level if word == EACH]
        # Asked before they are listed, because a tuple that occurs often can hold very many trees.
        if sum([len(trees) for trees in inner]) > MOST_NODES:
            return False
        level = [tree for trees in inner for tree in trees]
    return not level


def is_refutation(effects, number, pairs, tree):
    """Return whether a tree refutes a number of candidates for open pairs."""
    word, inside = tree
    if number == 0:
        return word == TIED and inside in pairs
    if word != EACH or len(inside) != len(effects):
        return False
    return all([_refutes_one(effects, at, number, pairs, inside[at]) for at in range(len(effects))])


def refutation(effects, number, pairs):
    """Return a tree that refutes a number of candidates for open pairs; no such key may explain them."""
    if number == 0:
        return (TIED, pairs[0])
    trees = [_answer(effects, effect, number, pairs) for effect in effects]
    return (EACH, tuple(trees))


def tied(effect, pairs):
    """Return the open pairs that a candidate leaves open."""
    return tuple([at for at in pairs if effect[at] == 0])


def turned(effect, pairs):
    """Return the open pairs that a candidate turns round."""
    return tuple([at for at in pairs if effect[at] == 1])


def _is_node(value):
    """Return whether a value is a tree, if the trees in it are."""
    if not isinstance(value, tuple) or len(value) != 2:
        return False
    word, inside = value
    if not isinstance(word, str):
        return False
    if word == EACH:
        return isinstance(inside, tuple)
    return word in (TIED, TURNED) and is_integer(inside)


def _refutes_one(effects, at, number, pairs, tree):
    """Return whether a tree refutes the keys of a number of candidates that begin with one."""
    word, inside = tree
    if word == TURNED:
        return inside in turned(effects[at], pairs)
    return is_refutation(effects, number - 1, tied(effects[at], pairs), tree)


def _answer(effects, effect, number, pairs):
    """Return a tree that refutes the keys of a number of candidates that begin with one."""
    wrong = turned(effect, pairs)
    if wrong:
        return (TURNED, wrong[0])
    return refutation(effects, number - 1, tied(effect, pairs))
