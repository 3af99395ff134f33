"""Keys that explain, refutations and reasons: points [4] to [7], and the section on sortreason/reasons.py."""

import copy
import inspect
import itertools
import unittest

from sortreason import reasons
from sortreason.errors import BadKey, BadNumber, BadPairs, BadTable, BadTree
from sortreason.keys import Ending, Key, Part, Rest, Size
from sortreason.reasons import NoReason, Reason, deciders, explains, first_fault, reason, refutes
from sortreason.tables import Table
from support import Dice, RefusalCase, candidates_of, effect, strange_values, wrong_keys

BOTH = {"year": "numbers", "title": "words"}
ROWS = [(3, "oak"), (3, "elm"), (5, "ash")]
NUMBERS = {"a": "numbers"}
# The rows of tables of one column of numbers, by the number of candidates that are needed.
NEEDED = {1: [(1,), (4,)], 2: [(1,), (0,), (4,)], 3: [(-2,), (4,), (1,), (2,)], None: [(2,), (1,), (2,)]}


def both():
    return Table(BOTH, ROWS)


def effects_of(table):
    return [effect(table.columns, table.rows, [part]) for part in candidates_of(table.columns)]


def explained(effects, indices):
    """Whether the candidates with these indices explain, pair by pair."""
    for words in zip(*[effects[at] for at in indices]):
        if [word for word in words if word][:1] != [-1]:
            return False
    return True


def shortest(table):
    """All shortest keys of at most 3 candidates, in order, by trying: lists of indices."""
    effects = effects_of(table)
    for many in (1, 2, 3):
        found = [indices for indices in itertools.product(range(len(effects)), repeat=many)
                 if explained(effects, indices)]
        if found:
            return found
    return []


def is_refuted(effects, number, pairs, tree):
    """Whether a tree refutes, candidate by candidate, as point [6] says it."""
    if number == 0:
        return tree[0] == "tied" and tree[1] in pairs
    if tree[0] != "each" or len(tree[1]) != len(effects):
        return False
    for done, answer in zip(effects, tree[1]):
        if answer[0] == "turned":
            if answer[1] not in pairs or done[answer[1]] != 1:
                return False
        elif not is_refuted(effects, number - 1, [at for at in pairs if done[at] == 0], answer):
            return False
    return True


def changed(tree):
    """Trees in each of which one thing is changed."""
    word, inside = tree
    if word == "each":
        yield from [("each", ()), ("each", inside[:-1]), ("each", inside[1:]), ("each", inside + inside[-1:]),
                    ("tied", 0), ("turned", 0)]
        for at, one in enumerate(inside):
            yield ("each", inside[:at] + (inside[at - 1],) + inside[at + 1:])
            for other in changed(one):
                yield ("each", inside[:at] + (other,) + inside[at + 1:])
    else:
        yield from [(word, at) for at in range(-1, 8) if at != inside]
        yield from [("turned" if word == "tied" else "tied", inside), ("each", ()), ("each", (tree,))]


def tables(many, columns=3, rows=8):
    """Tables with many ties."""
    for seed in range(many):
        dice = Dice(seed)
        chosen = dice.columns(columns)
        yield Table(chosen, dice.rows(chosen, 2, rows))


class InterfaceTest(unittest.TestCase):
    def test_example_of_the_document(self):
        found = reason(Table({'year': 'numbers', 'title': 'words'}, [(3, 'oak'), (3, 'elm'), (5, 'ash')]))
        told = [len(found.key), found.deciders, found.key[0].measure.name, found.key[0].down]
        self.assertEqual(repr(told), "[1, (0, 0), 'title', True]")

    def test_all_are_defined_in_the_file(self):
        for name in ["explains", "deciders", "first_fault", "refutes", "reason", "Reason", "NoReason"]:
            self.assertEqual(getattr(reasons, name).__module__, "sortreason.reasons")

    def test_methods_are_defined_in_the_classes_themselves(self):
        for owner in (Reason, NoReason):
            for name in ["__init__", "__eq__", "shows"]:
                self.assertIn(name, vars(owner))

    def test_arguments_have_their_names(self):
        listed = {explains: ["table", "key"], deciders: ["table", "key"], first_fault: ["table", "key"],
                  refutes: ["table", "number", "pairs", "tree"], reason: ["table"], NoReason: ["tree"],
                  Reason: ["key", "deciders", "tree"], Reason.shows: ["self", "table"],
                  NoReason.shows: ["self", "table"]}
        for call, names in listed.items():
            self.assertEqual(list(inspect.signature(call).parameters), names)

    def test_attributes_are_set_when_the_object_is_created(self):
        found = Reason(Key(), (0,), ("tied", 0))
        self.assertEqual(sorted(vars(found)), ["deciders", "key", "tree"])
        self.assertEqual([found.key, found.deciders, found.tree], [Key(), (0,), ("tied", 0)])
        self.assertEqual(vars(NoReason(("tied", 1))), {"tree": ("tied", 1)})


class ExplainsTest(unittest.TestCase):
    def check(self, table, key):
        done = effect(table.columns, table.rows, key.parts)
        faults = [(at, "turned" if word else "tied") for at, word in enumerate(done) if word != -1]
        fault = first_fault(table, key)
        self.assertEqual(fault, faults[0] if faults else None)
        self.assertIs(type(fault), tuple if faults else type(None))
        self.assertIs(explains(table, key), not faults)
        if faults:
            self.assertIsNone(deciders(table, key))
            return False
        one_by_one = [effect(table.columns, table.rows, [part]) for part in key.parts]
        expected = tuple(next(at for at, word in enumerate(words) if word) for words in zip(*one_by_one))
        self.assertEqual(deciders(table, key), expected)
        self.assertIs(type(deciders(table, key)), tuple)
        return True

    def test_many_tables_and_keys(self):
        found = 0
        for seed in range(300):
            dice = Dice(seed)
            columns = dice.columns()
            table = Table(columns, dice.rows(columns, 2, 4))
            for _ in range(8):
                found += self.check(table, dice.key(columns))
        self.assertGreater(found, 100)

    def test_every_candidate_alone(self):
        for table in tables(60, rows=3):
            for part in table.candidates():
                self.check(table, Key(part))

    def test_deciders_of_several_parts(self):
        table = Table({"a": "numbers", "b": "words", "c": "numbers"},
                      [(1, "x", 2), (1, "xx", 2), (1, "xx", 1), (2, "a", 0), (2, "z", 0)])
        key = Key(Part.up("a"), Part(Size("b")), Part.downward("c"), Part(Ending("b")))
        self.assertEqual(deciders(table, key), (1, 2, 0, 3))

    def test_6_parts(self):
        table = Table({"a": "numbers", "b": "numbers"}, [(2, 1), (2, 3), (4, 3), (4, 4)])
        key = Key(Part(Rest("a", 2)), Part(Rest("b", 9), down=True), Part(Size("a")), Part.up("a"), Part.up("b"),
                  Part.downward("b"))
        self.assertEqual(first_fault(table, key), (0, "turned"))
        key = Key(Part(Rest("a", 2)), Part(Rest("a", 2)), Part(Rest("a", 2), down=True), Part(Rest("a", 2)),
                  Part.up("a"), Part.up("b"))
        self.assertEqual(deciders(table, key), (5, 4, 5))
        self.assertEqual(len(key), 6)

    def test_measures_that_are_no_candidates(self):
        table = Table(NUMBERS, [(4,), (-1,), (9,)])
        self.assertEqual(first_fault(table, Key(Part(Rest("a", 5)))), (0, "tied"))
        self.assertEqual(first_fault(table, Key(Part(Rest("a", 9)))), (1, "turned"))
        key = Key(Part(Rest("a", 5)), Part.downward("a"))
        self.assertEqual(deciders(Table(NUMBERS, [(-9,), (4,), (-1,)]), key), (0, 1))
        self.assertIsNone(deciders(Table(NUMBERS, [(4,), (-1,), (-9,)]), key))

    def test_key_without_parts_explains_nothing(self):
        for table in tables(20):
            self.assertIs(explains(table, Key()), False)
            self.assertIsNone(deciders(table, Key()))
            self.assertEqual(first_fault(table, Key()), (0, "tied"))

    def test_faults_behind_pairs_in_order(self):
        columns = {"a": "numbers", "b": "words"}
        key = Key(Part.up("a"), Part.downward("b"))
        self.assertEqual(first_fault(Table(columns, [(1, "b"), (1, "a"), (2, "b"), (2, "b"), (1, "a")]), key),
                         (2, "tied"))
        self.assertEqual(first_fault(Table(columns, [(1, "b"), (1, "a"), (2, "a"), (2, "b"), (2, "b")]), key),
                         (2, "turned"))
        self.assertEqual(first_fault(Table(columns, [(at // 2, "ba"[at % 2]) for at in range(7)] + [(0, "z")]), key),
                         (6, "turned"))

    def test_only_neighbours_count(self):
        self.assertIs(explains(Table(NUMBERS, [(1,), (2,), (1,)]), Key(Part.up("a"))), False)
        self.assertEqual(first_fault(Table(NUMBERS, [(1,), (2,), (1,)]), Key(Part.up("a"))), (1, "turned"))


class RefutesTest(unittest.TestCase):
    def check(self, table, number, pairs, tree):
        found = refutes(table, number, pairs, tree)
        expected = is_refuted(effects_of(table), number, pairs, tree)
        self.assertIs(found, expected, (table.rows, number, pairs, tree))
        return found

    def subsets(self, table):
        return [pairs for many in range(len(table.pairs) + 1) for pairs in itertools.combinations(table.pairs, many)]

    def test_number_0(self):
        table = Table(NUMBERS, [(at,) for at in range(8)])
        for pairs in self.subsets(table):
            for at in range(-2, 9):
                self.assertIs(refutes(table, 0, pairs, ("tied", at)), at in pairs)
                self.assertIs(refutes(table, 0, pairs, ("turned", at)), False)
            self.assertIs(refutes(table, 0, pairs, ("each", ())), False)
            self.assertIs(refutes(table, 0, pairs, ("each", (("tied", 0),) * 8)), False)

    def test_leaves_refute_no_number_from_1(self):
        for number in (1, 2, 3):
            for word in ("tied", "turned"):
                self.assertIs(refutes(both(), number, (0, 1), (word, 0)), False)
            self.assertIs(refutes(both(), number, (0, 1), ("each", ())), False)

    def test_one_part_by_hand(self):
        # Candidates: the number, its size, its rests by 2 and by 3, each up and down.
        table = Table(NUMBERS, [(0,), (2,), (-2,)])
        tree = ("each", (("turned", 1), ("turned", 0), ("tied", 1), ("turned", 0), ("tied", 0), ("tied", 1),
                         ("turned", 1), ("turned", 0)))
        self.assertIs(refutes(table, 1, (0, 1), tree), True)
        self.assertIs(refutes(table, 1, (0,), tree), False)
        self.assertIs(refutes(table, 1, (1,), tree), False)
        self.assertIs(refutes(table, 0, (0, 1), tree), False)
        self.assertIs(refutes(table, 2, (0, 1), tree), False)
        self.assertIs(refutes(table, 3, (0, 1), tree), False)

    def test_inner_pairs_are_those_that_are_tied(self):
        table = Table(NUMBERS, [(0,), (2,), (-2,), (-2,)])
        leaf = ("tied", 2)
        self.assertIs(refutes(table, 1, (2,), ("each", (leaf,) * 8)), True)
        # Pair 0 is put in order by the first candidate, so it is no longer open.
        self.assertIs(refutes(table, 1, (0, 2), ("each", (("tied", 0),) + (leaf,) * 7)), False)
        self.assertIs(refutes(table, 2, (2,), ("each", (("each", (leaf,) * 8),) * 8)), True)
        self.assertIs(refutes(table, 3, (2,), ("each", (("each", (("each", (leaf,) * 8),) * 8),) * 8)), True)

    def test_one_refutation_for_all_depths(self):
        table = Table(NUMBERS, [(1,), (1,)])
        tree = ("tied", 0)
        for number in range(4):
            for other in range(4):
                self.assertIs(refutes(table, other, (0,), tree), other == number)
            self.assertIs(refutes(table, number, (), tree), False)
            tree = ("each", (tree,) * 8)

    def test_no_tree_refutes_without_open_pairs(self):
        for table in tables(30, rows=4):
            found = reason(table)
            for number in range(4):
                self.assertIs(refutes(table, number, (), found.tree), False)

    def test_returned_trees_with_one_thing_changed(self):
        told = []
        for table in itertools.chain(tables(80, 1, 4), tables(30, 2, 4)):
            found = reason(table)
            if isinstance(found, Reason) and len(found.key) < 3:
                number = len(found.key) - 1
                for tree in changed(found.tree):
                    told.append(self.check(table, number, tuple(table.pairs), tree))
        self.assertGreater(told.count(True), 10)
        self.assertGreater(told.count(False), 1000)

    def test_large_trees_with_one_thing_changed(self):
        told = []
        for rows in [NEEDED[3], NEEDED[None], [(0,), (1,), (-1,), (3,), (2,)]]:
            table = Table(NUMBERS, rows)
            found = reason(table)
            number = len(found.key) - 1 if isinstance(found, Reason) else 3
            for tree in itertools.islice(changed(found.tree), 0, None, 3):
                told.append(self.check(table, number, tuple(table.pairs), tree))
        self.assertGreater(told.count(True), 5)
        self.assertGreater(told.count(False), 100)

    def test_trees_for_fewer_pairs(self):
        for table in itertools.chain(tables(30, 1, 5), tables(15, 2, 4)):
            found = reason(table)
            number = len(found.key) - 1 if isinstance(found, Reason) else 3
            if number < 3:
                for pairs in self.subsets(table):
                    self.check(table, number, pairs, found.tree)

    def test_trees_of_other_tables(self):
        found = [(table, reason(table)) for table in tables(30, 1, 4)]
        for table, _ in found:
            for _, other in found[:12]:
                for number in (0, 1, 2):
                    self.check(table, number, tuple(table.pairs), other.tree)

    def test_an_index_beyond_the_pairs(self):
        for at in (-1, -2, 2, 10 ** 30, -10 ** 30):
            self.assertIs(refutes(both(), 0, (0, 1), ("tied", at)), False)
            self.assertIs(refutes(both(), 1, (0, 1), ("each", (("turned", at),) * 14)), False)
            self.assertIs(refutes(both(), 1, (0, 1), ("each", (("tied", at),) * 14)), False)

    def test_an_index_must_be_open(self):
        table = Table(NUMBERS, [(2,), (1,), (1,)])
        self.assertIs(refutes(table, 0, (1,), ("tied", 0)), False)
        good = ("each", (("turned", 0), ("tied", 1), ("turned", 0), ("tied", 1), ("tied", 1), ("turned", 0),
                         ("turned", 0), ("tied", 1)))
        self.assertIs(refutes(table, 1, (0, 1), good), True)
        self.assertIs(refutes(table, 1, (1,), good), False)

    def test_trees_5_deep_are_told(self):
        tree = ("tied", 0)
        for _ in range(4):
            tree = ("each", (tree,) * 5)
        for number in range(4):
            self.assertIs(refutes(Table(NUMBERS, [(1,), (1,)]), number, (0,), tree), False)
        tree = ("each", ())
        for _ in range(4):
            tree = ("each", (tree,))
        self.assertIs(refutes(both(), 3, (0, 1), tree), False)

    def test_trees_of_20000_nodes_are_told(self):
        leaf = ("turned", 0)
        self.assertIs(refutes(both(), 1, (0, 1), ("each", (leaf,) * 19999)), False)
        # The same tuple counts each time that it occurs: 1 + 199 + 199 * 99 + 99 are 20000.
        inner = ("each", (leaf,) * 99)
        self.assertIs(refutes(both(), 3, (0, 1), ("each", (inner,) * 199 + (leaf,) * 99)), False)

    def test_the_largest_refutation(self):
        table = Table({"a": "numbers", "b": "numbers", "c": "numbers"}, [(1, 2, 3)] * 8)
        tree = ("tied", 6)
        for number in range(4):
            self.assertIs(refutes(table, number, tuple(range(7)), tree), True)
            self.assertIs(refutes(table, number, (0, 5), tree), False)
            tree = ("each", (tree,) * 24)


class Pair(tuple):
    """A tuple of a class of its own."""


class Word(str):
    """A text of a class of its own."""


class Sly(str):
    """A text that is equal to all texts."""

    def __eq__(self, other):
        return isinstance(other, str)

    def __hash__(self):
        return 1


class Number(int):
    """An integer of a class of its own."""


class ManyNodesTest(RefusalCase):
    """Trees of 20000 nodes and of one more."""

    LEAF, HOLLOW = ("turned", 0), ("each", ())

    def accepted(self, tree, answer=False):
        for number in range(4):
            self.assertIs(refutes(both(), number, (0, 1), tree), answer)

    def wrong(self, tree):
        for number in (0, 1, 3):
            self.refused(BadTree, refutes, both(), number, (0, 1), tree)

    def nested(self, leaves, more):
        """A tree of 199 trees of so many leaves each, and more leaves beside them."""
        return ("each", (("each", leaves),) * 199 + more)

    def chained(self, many, last):
        """A tree 5 deep, of so many nodes, with one at the end of the deepest ones."""
        tree = ("each", (self.LEAF,) * (many - 5) + (last,))
        for _ in range(3):
            tree = ("each", (tree,))
        return tree

    def with_one(self, leaves, wrong):
        """The leaves with a wrong node in place of the first, a middle and the last one."""
        for at in (0, 1, len(leaves) // 2, len(leaves) - 1):
            yield leaves[:at] + (wrong,) + leaves[at + 1:]

    def test_wide_trees(self):
        for leaf in (("tied", 0), ("tied", -7), ("turned", 0), ("turned", 10 ** 30), self.HOLLOW):
            self.accepted(("each", (leaf,) * 19999))
            self.wrong(("each", (leaf,) * 20000))

    def test_wide_trees_of_different_nodes(self):
        nodes = tuple([(("tied", "turned")[at % 2], at - 9) if at % 3 else ("each", ()) for at in range(20000)])
        self.accepted(("each", nodes[1:]))
        self.accepted(("each", nodes[:-1]))
        self.wrong(("each", nodes))

    def test_nested_trees(self):
        for leaf in (self.LEAF, self.HOLLOW):
            self.accepted(self.nested((leaf,) * 99, (leaf,) * 99))
            self.wrong(self.nested((leaf,) * 99, (leaf,) * 100))
            self.wrong(self.nested((leaf,) * 100, (leaf,) * 99))

    def test_nested_trees_of_tuples_that_occur_once(self):
        inner = [("each", tuple([("tied", at) for at in range(99)])) for _ in range(199)]
        self.accepted(("each", tuple(inner) + (self.LEAF,) * 99))
        self.wrong(("each", tuple(inner) + (self.LEAF,) * 100))

    def test_trees_5_deep(self):
        for last in (self.LEAF, self.HOLLOW):
            self.accepted(self.chained(20000, last))
            self.wrong(self.chained(20001, last))
        self.wrong(self.chained(19999, ("each", (self.LEAF,))))

    def test_all_levels_count(self):
        inner = ("each", (self.LEAF,) * 10)
        tree = ("each", (("each", (("each", (inner,) * 30),) * 12),) * 5)
        # 1 + 5 + 5 * 12 + 5 * 12 * 30 + 5 * 12 * 30 * 10 are 19866.
        self.accepted(("each", tree[1] + (self.LEAF,) * 134))
        self.wrong(("each", tree[1] + (self.LEAF,) * 135))

    def wrong_nodes(self):
        return [("tied", True), ("turned", False), ("each", 0), ("each", [self.LEAF]), ("each", ("tied", 0)), ("tied", ()),
                ("turned", (self.LEAF,)), ("ties", 0), ("ties", ()), (0, 0), (None, ()), ("tied", None), ("tied",),
                ("tied", 0, 0), (), ["tied", 0], "ab", None, True]

    def test_a_wrong_node_among_many_leaves(self):
        leaves = (self.LEAF, ("tied", 1)) * 9999
        for wrong in self.wrong_nodes() + strange_values():
            for nodes in self.with_one(leaves, wrong):
                self.refused(BadTree, refutes, both(), 1, (0, 1), ("each", nodes))

    def test_a_wrong_node_among_many_trees_that_hold_none(self):
        for wrong in self.wrong_nodes():
            for nodes in self.with_one((self.HOLLOW,) * 19999, wrong):
                self.refused(BadTree, refutes, both(), 1, (0, 1), ("each", nodes))

    def test_a_wrong_node_in_one_of_many_trees(self):
        inner = (("each", (self.LEAF,) * 99),) * 199
        for wrong in self.wrong_nodes():
            for leaves in self.with_one((self.LEAF,) * 99, wrong):
                for nodes in self.with_one(inner, ("each", leaves)):
                    self.refused(BadTree, refutes, both(), 1, (0, 1), ("each", nodes))

    def test_a_wrong_node_that_occurs_often(self):
        for wrong in self.wrong_nodes():
            self.wrong(("each", (wrong,) * 19999))
            self.wrong(self.nested((self.LEAF,) * 98 + (wrong,), ()))
            self.wrong(self.chained(20000, wrong))

    def test_truth_values_beside_equal_integers(self):
        for number, truth in ((0, False), (1, True)):
            for word in ("tied", "turned"):
                leaves = ((word, number),) * 9999
                self.accepted(("each", leaves + leaves))
                self.wrong(("each", leaves + ((word, truth),) + leaves))
                self.wrong(("each", ((word, truth),) + leaves))

    def test_subclasses_of_tuples_texts_and_integers(self):
        leaves = [Pair(("tied", 0)), (Word("tied"), 0), ("turned", Number(1)), Pair((Word("turned"), Number(10 ** 30))),
                  ("each", Pair()), (Word("each"), ()), Pair((Word("each"), Pair([("tied", Number(0))])))]
        for leaf in leaves[:-1]:
            self.accepted(("each", (leaf,) * 19999))
            self.wrong(("each", (leaf,) * 20000))
            self.accepted(Pair(("each", Pair((self.LEAF,) * 9000 + (leaf,) + (self.LEAF,) * 9000))))
        self.accepted(("each", tuple(leaves)))
        self.wrong(("each", (Pair(("tied", 0, 0)),)))
        self.wrong(("each", (Pair((Word("ties"), 0)),)))
        self.wrong(("each", (Pair(("tied", True)),)))

    def test_a_text_that_is_equal_to_all_words(self):
        self.accepted((Sly("tied"), ()))
        self.accepted(("each", ((Sly("tied"), (self.LEAF,)),) * 9999))
        self.wrong((Sly("tied"), 0))
        self.wrong(("each", (self.LEAF,) * 9999 + ((Sly("tied"), 0),)))

    def test_subclasses_in_a_refutation(self):
        table = Table(NUMBERS, [(1,), (1,)])
        tree = Pair((Word("tied"), Number(0)))
        for number in range(4):
            for other in range(4):
                self.assertIs(refutes(table, other, (0,), tree), other == number)
            tree = Pair((Word("each"), Pair([tree] * 8)))


class AskedOftenTest(unittest.TestCase):
    """What was asked before changes no answer and none of the arguments."""

    def questions(self, table, seed):
        """Numbers, pairs and trees for a table, with what must be told."""
        dice, effects, everything = Dice(seed), effects_of(table), tuple(table.pairs)
        found = reason(table)
        most = len(found.key) - 1 if isinstance(found, Reason) else 3
        trees = [("tied", 0), ("turned", 0), ("each", ()), ("each", (("tied", 0),) * len(effects)), found.tree]
        if most < 3:
            trees += list(itertools.islice(changed(found.tree), 40))
        asked = []
        for tree in trees:
            for number in {0, 1, most}:
                for pairs in (everything, tuple(at for at in everything if dice.below(2)), ()):
                    asked.append((number, pairs, tree, is_refuted(effects, number, pairs, tree)))
        return asked

    def test_a_table_that_is_asked_twice(self):
        told = []
        for seed, table in enumerate(tables(30, 3, 6)):
            asked = self.questions(table, seed)
            for number, pairs, tree, expected in asked + asked[::-1]:
                self.assertIs(refutes(table, number, pairs, tree), expected)
                self.assertIs(refutes(table, number, pairs, tree), expected)
                told.append(expected)
        self.assertGreater(told.count(True), 30)

    def test_tables_that_are_asked_by_turns(self):
        for seed, (one, other) in enumerate(itertools.combinations(tables(9, 2, 5), 2)):
            # Each table is asked about the trees of the other one, too.
            asked = self.questions(one, seed)[::3] + self.questions(other, seed)[::3]
            for number, pairs, tree, _ in asked:
                for table in (one, other, one):
                    if all(at in table.pairs for at in pairs):
                        expected = is_refuted(effects_of(table), number, pairs, tree)
                        self.assertIs(refutes(table, number, pairs, tree), expected)

    def test_tables_that_differ_in_one_cell(self):
        # What is told depends on the rows and their order, not on the columns alone.
        made = [Table(NUMBERS, [(1,), (cell,)]) for cell in (0, 1, 2)]
        for _ in range(2):
            for table in made + made[::-1]:
                for tree in [("each", (one, other) * 4) for one in (("tied", 0), ("turned", 0))
                             for other in (("tied", 0), ("turned", 0))]:
                    self.assertIs(refutes(table, 1, (0,), tree), is_refuted(effects_of(table), 1, (0,), tree))

    def test_equal_tables_answer_the_same(self):
        for seed, table in enumerate(tables(10, 3, 5)):
            for number, pairs, tree, expected in self.questions(table, seed)[::4]:
                self.assertIs(refutes(Table(table.columns, table.rows), number, pairs, tree), expected)

    def test_a_refused_question_changes_no_answer(self):
        table = both()
        tree = ("each", (("turned", 0),) * 14)
        expected = is_refuted(effects_of(table), 1, (0, 1), tree)
        for number, pairs, wrong in [(4, (0,), tree), (1, (5,), tree), (1, (0,), ("tied", True)), (1, (0,), None)]:
            with self.assertRaises(ValueError):
                refutes(table, number, pairs, wrong)
            self.assertIs(refutes(table, 1, (0, 1), tree), expected)
            self.assertIs(refutes(table, 0, (0, 1), ("tied", 1)), True)

    def test_nothing_is_changed(self):
        for seed, table in enumerate(tables(10, 3, 5)):
            parts, held = list(table.candidates()), copy.deepcopy(vars(table))
            columns, rows = list(table.columns.items()), table.rows
            for number, pairs, tree, _ in self.questions(table, seed):
                same = copy.deepcopy(tree)
                refutes(table, number, pairs, tree)
                self.assertEqual(tree, same)
            self.assertEqual(vars(table), held)
            self.assertEqual([list(table.columns.items()), table.rows, list(table.candidates())], [columns, rows, parts])

    def test_each_candidate_for_each_pair(self):
        """What candidates do to pairs, of numbers and words of all lengths."""
        columns = {"a": "numbers", "b": "words"}
        rows = [(-99, "zzzzzzzz"), (99, "zzzzzzzz"), (99, "zzzzzzz"), (-4, "a"), (-3, "ab"), (-3, "aaaaaaab"),
                (0, "aaaaaaac"), (-99, "aaaaaaac")]
        for chosen in (rows, rows[::-1]):
            table = Table(columns, chosen)
            effects, pairs = effects_of(table), tuple(table.pairs)
            right = [self.answer(done) for done in effects]
            self.assertIs(refutes(table, 1, pairs, ("each", tuple(right))), True)
            for at, done in enumerate(effects):
                for word, value in (("tied", 0), ("turned", 1)):
                    for pair in pairs:
                        trees = right[:at] + [(word, pair)] + right[at + 1:]
                        self.assertIs(refutes(table, 1, pairs, ("each", tuple(trees))), done[pair] == value)

    def answer(self, done):
        """A tree that refutes the key of a candidate alone."""
        return ("turned", done.index(1)) if 1 in done else ("tied", done.index(0))


class RefusalTest(RefusalCase):
    def test_wrong_tables(self):
        for table in [BOTH, ROWS, "table", 1, [], (), {}, Table, Key()] + strange_values():
            for key in (Key(Part.up("year")), None, True):
                for call in (explains, deciders, first_fault):
                    self.assertIsNone(self.refused(BadTable, call, table, key).part)
            self.assertIsNone(self.refused(BadTable, reason, table).part)
            self.assertIsNone(self.refused(BadTable, refutes, table, 0, (0,), ("tied", 0)).part)
            self.assertIsNone(self.refused(BadTable, refutes, table, True, None, None).part)
            self.assertIsNone(self.refused(BadTable, Reason(Key(), (), ("tied", 0)).shows, table).part)
            self.assertIsNone(self.refused(BadTable, NoReason(("tied", 0)).shows, table).part)

    def test_wrong_keys(self):
        for key in wrong_keys():
            for call in (explains, deciders, first_fault):
                self.refused(BadKey, call, both(), key)

    def test_wrong_numbers(self):
        for number in [-1, 4, -4, 10 ** 30, "1", "", [1], (1,), {1: 1}, [], (), {}] + strange_values():
            self.refused(BadNumber, refutes, both(), number, (0, 1), ("tied", 0))
            self.refused(BadNumber, refutes, both(), number, None, None)
            self.refused(BadNumber, refutes, both(), number, (1, 0), ("tied", 0))
            self.refused(BadNumber, refutes, both(), number, (0, 1), None)

    def test_numbers_at_the_bounds(self):
        for number in range(4):
            self.assertIs(refutes(both(), number, (0, 1), ("tied", 0)), number == 0)

    def test_wrong_pairs(self):
        wrong = [(2,), (-1,), (0, 2), (-1, 0), (0, 0), (1, 1), (1, 0), (0, 1, 1), (0, 0, 1), (0, 1, 2), (10 ** 30,),
                 (True,), (False,), (0, True), (False, 1), (None,), ("0",), ((0,),), ([0],), (0, None), [0], [0, 1], [],
                 "", "0", "01", 0, 1, {0: 1}, {}, {0}, range(1)]
        for pairs in wrong + strange_values() + [(value,) for value in strange_values()]:
            self.refused(BadPairs, refutes, both(), 0, pairs, ("tied", 0))
            self.refused(BadPairs, refutes, both(), 3, pairs, None)
            self.refused(BadPairs, refutes, both(), 1, pairs, ("tied", True))

    def test_pairs_at_the_bounds(self):
        table = Table(NUMBERS, [(at,) for at in range(8)])
        self.assertIs(refutes(table, 0, (0, 1, 2, 3, 4, 5, 6), ("tied", 6)), True)
        self.assertIs(refutes(table, 0, (6,), ("tied", 6)), True)
        self.assertIs(refutes(table, 0, (), ("tied", 6)), False)
        self.refused(BadPairs, refutes, table, 0, (7,), ("tied", 6))
        self.refused(BadPairs, refutes, Table(NUMBERS, [(0,), (1,)]), 0, (1,), ("tied", 0))

    def wrong_trees(self):
        found = [(), ("tied",), ("tied", 0, 0), ("turned", 0, 1), ("each",), ("each", (), ()), ("Tied", 0), ("tied ", 0),
                 ("", 0), ("ties", 0), (0, "tied"), (0, 0), (b"tied", 0), ("tied", "0"), ("tied", None), ("tied", ()),
                 ("tied", (0,)), ("tied", [0]), ("turned", ("tied", 0)), ("each", 0), ("each", None), ("each", "tied"),
                 ("each", [("tied", 0)]), ("each", []), ("each", {}), ("each", ("tied", 0)), ("each", (0,)),
                 ("each", ((),)), ("each", (None,)), ["tied", 0], ["each", ()], [], "tied", "", 0, 1, {},
                 {"tied": 0}, {"each": ()}, ("tied", True), ("tied", False), ("turned", True), ("turned", False)]
        found += strange_values() + [("tied", value) for value in strange_values()]
        found += [("turned", value) for value in strange_values()] + [(value, 0) for value in strange_values()]
        return found + [("each", value) for value in strange_values()]

    def test_wrong_trees(self):
        for tree in self.wrong_trees():
            for number in range(4):
                self.refused(BadTree, refutes, both(), number, (0, 1), tree)

    def test_wrong_trees_within_trees(self):
        leaf = ("turned", 0)
        for tree in self.wrong_trees():
            self.refused(BadTree, refutes, both(), 0, (0, 1), ("each", (tree,)))
            self.refused(BadTree, refutes, both(), 0, (), ("each", (tree,)))
            self.refused(BadTree, refutes, both(), 1, (0, 1), ("each", (leaf,) * 13 + (tree,)))
            self.refused(BadTree, refutes, both(), 3, (0, 1), ("each", (leaf, ("each", (leaf, ("each", (tree,)))))))

    def test_trees_of_6_levels(self):
        for leaf in (("tied", 0), ("turned", 0), ("each", ())):
            tree = leaf
            for _ in range(4):
                tree = ("each", (tree,))
            self.assertIs(refutes(both(), 3, (0,), tree), False)
            self.refused(BadTree, refutes, both(), 3, (0,), ("each", (tree,)))
            self.refused(BadTree, refutes, both(), 0, (0,), ("each", (leaf, leaf, tree, leaf)))

    def test_very_deep_trees(self):
        tree = ("tied", 0)
        for _ in range(100000):
            tree = ("each", (tree,))
        self.refused(BadTree, refutes, both(), 3, (0,), tree)

    def test_trees_of_20001_nodes(self):
        leaf = ("turned", 0)
        self.refused(BadTree, refutes, both(), 1, (0, 1), ("each", (leaf,) * 20000))
        inner = ("each", (leaf,) * 99)
        self.refused(BadTree, refutes, both(), 3, (0, 1), ("each", (inner,) * 199 + (leaf,) * 100))

    def test_very_large_trees(self):
        tree = ("tied", 0)
        for _ in range(4):
            tree = ("each", (tree,) * 19000)
        self.refused(BadTree, refutes, both(), 3, (0,), tree)
        self.refused(BadTree, refutes, both(), 0, (0,), ("each", (("tied", 0),) * 10 ** 6))

    def test_of_several_errors_the_first_one(self):
        self.refused(BadTable, refutes, None, None, None, None)
        self.refused(BadNumber, refutes, both(), None, None, None)
        self.refused(BadPairs, refutes, both(), 0, None, None)
        self.refused(BadTree, refutes, both(), 0, (), None)

    def test_a_refused_call_changes_nothing(self):
        table, tree = both(), ("each", (("tied", 0), ("tied", None)))
        self.refused(BadTree, refutes, table, 1, (0, 1), tree)
        self.refused(BadKey, explains, table, None)
        self.assertTrue(table == both())
        self.assertEqual(tree, ("each", (("tied", 0), ("tied", None))))


class ReasonTest(unittest.TestCase):
    def check(self, table):
        """Check a reason against all keys; return the length of its key, 0 without one."""
        found, keys = reason(table), shortest(table)
        candidates, effects = candidates_of(table.columns), effects_of(table)
        if keys:
            self.assertIs(type(found), Reason)
            self.assertEqual(found.key.parts, [candidates[at] for at in keys[0]])
            self.assertEqual(found.deciders, deciders(table, found.key))
            self.assertEqual([type(found.key), type(found.deciders)], [Key, tuple])
        else:
            self.assertIs(type(found), NoReason)
        number = len(keys[0]) - 1 if keys else 3
        self.assertTrue(is_refuted(effects, number, table.pairs, found.tree))
        self.assertIs(refutes(table, number, tuple(table.pairs), found.tree), True)
        self.assertIs(found.shows(table), True)
        return len(keys[0]) if keys else 0

    def test_tables_that_1_2_and_3_candidates_explain(self):
        for many in (1, 2, 3):
            self.assertEqual(self.check(Table(NUMBERS, NEEDED[many])), many)

    def test_tables_that_none_explains(self):
        self.assertEqual(self.check(Table(NUMBERS, NEEDED[None])), 0)
        self.assertEqual(self.check(Table({"a": "words"}, [("ab",), ("aa",), ("ba",), ("ab",)])), 0)

    def test_equal_neighbours(self):
        self.assertEqual(self.check(Table(NUMBERS, [(1,), (1,)])), 0)
        self.assertEqual(self.check(Table(BOTH, [(1, "a"), (2, "a"), (2, "a")])), 0)
        self.assertEqual(self.check(Table(BOTH, [(1, "a"), (1, "a"), (2, "a"), (3, "a")])), 0)

    def test_equal_rows_that_are_no_neighbours(self):
        self.assertEqual(self.check(Table(NUMBERS, [(1,), (2,), (1,)])), 0)

    def test_many_tables(self):
        found = [self.check(table) for table in itertools.chain(tables(100, columns=2), tables(250, 2, 5))]
        for many in range(4):
            self.assertGreater(found.count(many), 5)

    def test_sorted_tables(self):
        found = []
        for seed in range(60):
            dice = Dice(seed)
            columns = dice.columns(2)
            rows = sorted(set(dice.rows(columns, 4, 8)), reverse=seed % 2 == 0)
            if len(rows) > 1:
                found.append(self.check(Table(columns, rows)))
        self.assertNotIn(0, found)
        self.assertGreater(found.count(1), 10)
        self.assertGreater(found.count(2), 10)

    def test_3_columns(self):
        found = [self.check(table) for table in tables(500) if len(table.columns) == 3 and table.rows[0][0] in (0, "a")]
        self.assertGreater(len(found), 15)
        for many in (0, 1, 2):
            self.assertIn(many, found)

    def test_2_rows(self):
        for one, other in itertools.product([(-3,), (-1,), (0,), (1,), (4,)], repeat=2):
            self.assertEqual(self.check(Table(NUMBERS, [one, other])), 0 if one == other else 1)

    def test_8_rows_that_3_candidates_explain(self):
        rows = [(1, "b", 2), (1, "b", 1), (1, "a", 2), (1, "a", 1), (0, "b", 2), (0, "b", 1), (0, "a", 2), (0, "a", 1)]
        self.assertEqual(self.check(Table({"a": "numbers", "b": "words", "c": "numbers"}, rows)), 3)

    def test_the_largest_tables(self):
        numbers = {"a": "numbers", "b": "numbers", "c": "numbers"}
        self.assertEqual(self.check(Table(numbers, [(1, 2, 3)] * 8)), 0)
        self.assertEqual(self.check(Table(numbers, [(2, 2, 2)] * 6 + [(8, 8, 8), (8, 8, 8)])), 0)
        words = {"a": "words", "b": "words", "c": "words"}
        self.assertEqual(self.check(Table(words, [("abcdefgh", "x", "y")] * 8)), 0)

    def test_keys_are_compared_by_the_indices_of_candidates(self):
        # Upwards the number, the size and more would do: the number comes first.
        self.assertEqual(reason(Table(NUMBERS, [(0,), (1,)])).key, Key(Part.up("a")))
        self.assertEqual(reason(Table(NUMBERS, [(1,), (0,)])).key, Key(Part.downward("a")))
        self.assertEqual(reason(Table(NUMBERS, [(2,), (-3,), (4,)])).key, Key(Part(Size("a"))))
        table = Table({"b": "words", "a": "words"}, [("x", "y"), ("y", "z")])
        self.assertEqual(reason(table).key, Key(Part.up("b")))
        self.assertEqual(reason(Table({"a": "words"}, [("ba",), ("ab",), ("b",)])).key,
                         Key(Part(Size("a"), down=True), Part.downward("a")))

    def test_only_candidates_are_taken(self):
        # The rests by 5 are 0, 1, 2, 3 and 4, but a rest by 5 is no candidate.
        table = Table(NUMBERS, [(5,), (1,), (12,), (-2,), (4,)])
        self.assertTrue(explains(table, Key(Part(Rest("a", 5)))))
        found = reason(table)
        self.assertFalse(isinstance(found, Reason) and len(found.key) == 1)
        self.check(table)

    def test_results_do_not_depend_on_each_other(self):
        table = both()
        one, other = reason(table), reason(table)
        one.key, one.tree = Key(), ("tied", 7)
        self.assertTrue(other == reason(both()))
        self.assertTrue(table == both())


class ShowsTest(unittest.TestCase):
    def refused_trees(self, table, number, found, step):
        effects = effects_of(table)
        for tree in itertools.islice(changed(found.tree), 0, None, step):
            found.tree = tree
            self.assertIs(found.shows(table), is_refuted(effects, number, table.pairs, tree))

    def test_right_answers_with_another_key(self):
        seen = 0
        for table in tables(150, 2, 5):
            found, keys = reason(table), shortest(table)
            for indices in keys[:30]:
                key = Key(*[candidates_of(table.columns)[at] for at in indices])
                self.assertIs(Reason(key, deciders(table, key), found.tree).shows(table), True)
                seen += 1
        self.assertGreater(seen, 200)

    def test_right_answers_with_another_tree(self):
        table = Table(NUMBERS, NEEDED[1])
        self.assertIs(Reason(Key(Part.up("a")), (0,), ("tied", 0)).shows(table), True)
        table = Table(NUMBERS, [(1,), (2,), (5,)])
        for at in (0, 1):
            self.assertIs(Reason(Key(Part.up("a")), (0, 0), ("tied", at)).shows(table), True)

    def test_keys_that_explain_nothing(self):
        table = both()
        tree = reason(table).tree
        for part in candidates_of(BOTH):
            key = Key(part)
            expected = explains(table, key)
            self.assertIs(Reason(key, (0, 0), tree).shows(table), expected)

    def test_keys_that_are_not_the_shortest(self):
        table = both()
        key = Key(Part.up("year"), Part.downward("title"))
        self.assertTrue(explains(table, key))
        tree = reason(table).tree
        self.assertIs(Reason(key, deciders(table, key), tree).shows(table), False)
        self.assertIs(Reason(key, deciders(table, key), ("each", (tree,) * 14)).shows(table), False)
        longer = Key(Part.downward("title"), Part.downward("title"))
        self.assertIs(Reason(longer, deciders(table, longer), tree).shows(table), False)

    def test_keys_with_parts_that_are_no_candidates(self):
        table = Table(NUMBERS, [(0,), (1,)])
        for divisor in range(2, 10):
            found = Reason(Key(Part(Rest("a", divisor))), (0,), ("tied", 0))
            self.assertIs(found.shows(table), divisor in (2, 3))

    def test_keys_of_0_and_of_more_than_3_parts(self):
        table = Table(NUMBERS, NEEDED[None])
        tree = reason(table).tree
        self.assertIs(Reason(Key(), (), tree).shows(table), False)
        self.assertIs(Reason(Key(), (0, 0), ("tied", 0)).shows(table), False)
        for table, key in self.tables_for_4_parts():
            found = Reason(key, deciders(table, key), reason(table).tree)
            self.assertIsInstance(reason(table), NoReason)
            self.assertIs(found.shows(table), False)

    def tables_for_4_parts(self):
        """Tables that a key of 4 candidates explains, and none of 3."""
        for seed in range(400):
            dice = Dice(seed)
            columns = {"a": "numbers", "b": "numbers"}
            key = Key(*[dice.choice(candidates_of(columns)) for _ in range(4)])
            rows = [dice.row(columns) for _ in range(8)]
            table = Table(columns, self.in_order(columns, rows, key))
            if explains(table, key) and isinstance(reason(table), NoReason):
                yield table, key

    def in_order(self, columns, rows, key):
        found = []
        for row in rows:
            at = 0
            while at < len(found) and effect(columns, [found[at], row], key.parts) != [1]:
                at += 1
            found.insert(at, row)
        return found

    def test_there_are_tables_for_4_parts(self):
        self.assertGreater(len(list(self.tables_for_4_parts())), 0)

    def test_deciders(self):
        for table in tables(100, 2, 5):
            found = reason(table)
            if isinstance(found, Reason):
                right = found.deciders
                for at in range(len(right)):
                    for other in range(-1, 4):
                        found.deciders = right[:at] + (other,) + right[at + 1:]
                        self.assertIs(found.shows(table), found.deciders == right)
                for wrong in (right[:-1], right + right[-1:], (), right + (0,)):
                    found.deciders = wrong
                    self.assertIs(found.shows(table), False)
                found.deciders = right
                self.assertIs(found.shows(table), True)

    def test_booleans_are_no_deciders_and_no_indices(self):
        table = Table(NUMBERS, [(1,), (2,), (5,)])
        for wrong in ((False, 0), (0, False), (False, False)):
            self.assertIs(Reason(Key(Part.up("a")), wrong, ("tied", 0)).shows(table), False)
        for wrong in (True, False):
            self.assertIs(Reason(Key(Part.up("a")), (0, 0), ("tied", wrong)).shows(table), False)

    def test_deciders_of_another_key(self):
        table = Table(NUMBERS, NEEDED[2])
        keys = [Key(*[candidates_of(NUMBERS)[at] for at in indices]) for indices in shortest(table)]
        tree = reason(table).tree
        for one, other in itertools.product(keys, repeat=2):
            found = Reason(one, deciders(table, other), tree)
            self.assertIs(found.shows(table), deciders(table, one) == deciders(table, other))

    def test_trees_of_a_reason(self):
        for many in (1, 2):
            table = Table(NUMBERS, NEEDED[many])
            self.refused_trees(table, many - 1, reason(table), 1)
        self.refused_trees(Table(NUMBERS, NEEDED[3]), 2, reason(Table(NUMBERS, NEEDED[3])), 5)

    def test_trees_of_no_reason(self):
        table = Table(NUMBERS, NEEDED[None])
        self.refused_trees(table, 3, reason(table), 7)

    def test_trees_of_other_numbers(self):
        table = Table(NUMBERS, [(1,), (1,)])
        tree = ("tied", 0)
        for number in range(6):
            self.assertIs(NoReason(tree).shows(table), number == 3)
            tree = ("each", (tree,) * 8)

    def test_trees_somewhat_beyond_the_bounds(self):
        leaf = ("tied", 0)
        deep = ("each", (("each", (("each", (("each", (("each", (leaf,)),)),)),)),))
        for tree in (deep, ("each", (leaf,) * 20000), ("each", (("each", (leaf,) * 2000),) * 24)):
            for table in (both(), Table(NUMBERS, NEEDED[None]), Table(NUMBERS, NEEDED[3])):
                self.assertIs(NoReason(tree).shows(table), False)
                found = reason(table)
                found.tree = tree
                self.assertIs(found.shows(table), False)

    def test_a_reason_where_there_is_none_and_the_other_way_round(self):
        for table in tables(60, columns=1, rows=4):
            found = reason(table)
            if isinstance(found, Reason):
                self.assertIs(NoReason(found.tree).shows(table), False)
            else:
                for part in candidates_of(table.columns):
                    self.assertIs(Reason(Key(part), (0,) * len(table.pairs), found.tree).shows(table), False)

    def test_other_tables(self):
        found = reason(Table(NUMBERS, NEEDED[2]))
        self.assertIs(found.shows(Table(NUMBERS, NEEDED[2])), True)
        for rows in (NEEDED[1], NEEDED[3], NEEDED[None], [(1,), (0,), (4,), (5,)]):
            self.assertIs(found.shows(Table(NUMBERS, rows)), False)

    def test_attributes_that_are_set_afterwards(self):
        table = both()
        right = reason(table)
        found = Reason(Key(), (), ("turned", 0))
        self.assertIs(found.shows(table), False)
        found.key = right.key
        self.assertIs(found.shows(table), False)
        found.deciders = right.deciders
        self.assertIs(found.shows(table), False)
        found.tree = right.tree
        self.assertIs(found.shows(table), True)
        found.key = Key(Part.up("title"))
        self.assertIs(found.shows(table), False)
        table = Table(NUMBERS, NEEDED[None])
        other = NoReason(("tied", 0))
        self.assertIs(other.shows(table), False)
        other.tree = reason(table).tree
        self.assertIs(other.shows(table), True)


class EqualityTest(unittest.TestCase):
    def test_reasons(self):
        made = [Reason(key, told, tree) for key in (Key(), Key(Part.up("a"))) for told in ((0,), (1,), (0, 0))
                for tree in (("tied", 0), ("tied", 1), ("each", ()))]
        again = [Reason(one.key + Key(), tuple(list(one.deciders)), (one.tree[0], one.tree[1])) for one in made]
        for at, one in enumerate(made):
            for place, other in enumerate(again):
                self.assertIs(one == other, at == place)
                self.assertIs(one != other, at != place)

    def test_no_reasons(self):
        self.assertTrue(NoReason(("tied", 0)) == NoReason(("tied", 0)))
        self.assertFalse(NoReason(("tied", 0)) == NoReason(("tied", 1)))
        self.assertFalse(NoReason(("tied", 0)) == NoReason(("turned", 0)))

    def test_other_classes(self):
        self.assertFalse(NoReason(("tied", 0)) == Reason(Key(), (), ("tied", 0)))
        self.assertFalse(Reason(Key(), (), ("tied", 0)) == NoReason(("tied", 0)))
        self.assertFalse(NoReason(("tied", 0)) == ("tied", 0))
        self.assertFalse(Reason(Key(), (), ("tied", 0)) == Key())

    def test_it_is_of_the_current_attributes(self):
        one, other = NoReason(("tied", 0)), NoReason(("tied", 1))
        one.tree = ("tied", 1)
        self.assertTrue(one == other)
        one, other = Reason(Key(), (0,), ("tied", 0)), Reason(Key(), (1,), ("tied", 0))
        one.deciders = (1,)
        self.assertTrue(one == other)

    def test_reasons_of_equal_tables(self):
        for table in tables(20):
            self.assertTrue(reason(table) == reason(Table(table.columns, table.rows)))


if __name__ == "__main__":
    unittest.main()
