"""Desks: point [10], and the section on sortreason/desks.py."""

import inspect
import itertools
import unittest

from sortreason import desks
from sortreason.desks import Desk
from sortreason.errors import BadKey, BadMove, BadTable, NothingMoved
from sortreason.keys import Ending, Key, Part, Rest, Size
from sortreason.tables import Table
from support import Dice, RefusalCase, order, strange_values, wrong_keys

BOTH = {"year": "numbers", "title": "words"}
ROWS = [(5, "oak"), (3, "elm"), (4, "ash"), (5, "fir")]
YEAR = Key(Part.up("year"))
NUMBERS = {"a": "numbers"}
UP = Key(Part.up("a"))


def desk_of(*cells):
    return Desk(Table(NUMBERS, [(cell,) for cell in cells]), UP)


def year_desk():
    return Desk(Table(BOTH, ROWS), YEAR)


def wrong_pairs(columns, rows, key):
    return [(one, other) for one, other in itertools.combinations(range(len(rows)), 2)
            if order(columns, rows[one], rows[other], key.parts) == 1]


def moved(rows, index, to):
    rows = list(rows)
    rows.insert(to, rows.pop(index))
    return rows


def all_moves(many):
    return [(index, to) for index in range(many) for to in range(many) if index != to]


def helpful_moves(columns, rows, key):
    before = len(wrong_pairs(columns, rows, key))
    return [move for move in all_moves(len(rows)) if len(wrong_pairs(columns, moved(rows, *move), key)) < before]


def least_moves(columns, rows, key):
    """The least number of moves after which no pair is wrong, by trying all moves."""
    seen = {tuple(range(len(rows)))}
    reached = list(seen)
    for count in itertools.count():
        if any(not wrong_pairs(columns, [rows[at] for at in places], key) for places in reached):
            return count
        reached = list({tuple(moved(places, *move)) for places in reached for move in all_moves(len(rows))} - seen)
        seen.update(reached)


def cases(many, rows=8, parts=3):
    for seed in range(many):
        dice = Dice(seed)
        columns = dice.columns()
        yield columns, dice.rows(columns, 2, rows), dice.key(columns, parts), dice


class InterfaceTest(unittest.TestCase):
    def test_example_of_the_document(self):
        table = Table({'year': 'numbers', 'title': 'words'}, [(5, 'oak'), (3, 'elm'), (4, 'ash'), (5, 'fir')])
        desk = Desk(table, Key(Part.up('year')))
        found = [desk.wrong, desk.needed, desk.move(0, 3), desk[3], bool(desk), desk.undo(), list(desk.helpful())]
        self.assertEqual(repr(found), "[[(0, 1), (0, 2)], 1, True, (5, 'oak'), True, (0, 3), "
                                      "[(0, 1), (0, 2), (0, 3), (1, 0)]]")

    def test_the_class_is_defined_in_the_file(self):
        self.assertEqual(Desk.__module__, "sortreason.desks")
        self.assertIs(desks.Desk, Desk)

    def test_methods_are_defined_in_the_class_itself(self):
        for name in ["__init__", "table", "wrong", "needed", "move", "undo", "helpful", "__getitem__", "__contains__",
                     "__len__", "__bool__"]:
            self.assertIn(name, vars(Desk))

    def test_arguments_have_their_names(self):
        listed = {Desk: ["table", "key"], Desk.move: ["self", "index", "to"], Desk.undo: ["self"],
                  Desk.helpful: ["self"]}
        for call, names in listed.items():
            self.assertEqual(list(inspect.signature(call).parameters), names)

    def test_properties_cannot_be_assigned(self):
        for name in ["table", "wrong", "needed"]:
            with self.assertRaises(AttributeError):
                setattr(year_desk(), name, None)


class MoveTest(unittest.TestCase):
    def check(self, desk, columns, rows, key):
        """Check all that a desk tells against rows kept by the test."""
        self.assertTrue(desk.table == Table(columns, rows))
        self.assertIs(type(desk.table), Table)
        self.assertEqual([desk[at] for at in range(len(rows))], rows)
        wrong = wrong_pairs(columns, rows, key)
        self.assertEqual(desk.wrong, wrong)
        self.assertIs(bool(desk), not wrong)
        self.assertEqual(len(desk), len(rows))

    def test_many_moves_and_undos(self):
        told = []
        for columns, rows, key, dice in cases(80):
            desk = Desk(Table(columns, rows), key)
            past = []
            for _ in range(25):
                if dice.below(3) == 0 and past:
                    move, rows = past.pop()
                    self.assertEqual(desk.undo(), move)
                else:
                    index, to = dice.choice(all_moves(len(rows)))
                    later = moved(rows, index, to)
                    fewer = len(wrong_pairs(columns, later, key)) < len(wrong_pairs(columns, rows, key))
                    self.assertIs(desk.move(index, to), fewer)
                    told.append(fewer)
                    past.append(((index, to), rows))
                    rows = later
                self.check(desk, columns, rows, key)
            while past:
                move, rows = past.pop()
                self.assertEqual(desk.undo(), move)
                self.check(desk, columns, rows, key)
        self.assertGreater(told.count(True), 200)
        self.assertGreater(told.count(False), 200)

    def test_each_move_and_its_undo(self):
        for many in (2, 3, 8):
            cells = [5, 1, 4, 2, 8, 3, 7, 6][:many]
            rows = [(cell,) for cell in cells]
            for index, to in all_moves(many):
                desk = desk_of(*cells)
                desk.move(index, to)
                self.check(desk, NUMBERS, moved(rows, index, to), UP)
                self.assertEqual(desk[to], rows[index])
                found = desk.undo()
                self.assertEqual([found, type(found)], [(index, to), tuple])
                self.check(desk, NUMBERS, rows, UP)

    def test_as_many_wrong_pairs_are_not_fewer(self):
        desk = desk_of(2, 1, 2)
        self.assertIs(desk.move(0, 2), True)
        self.assertIs(desk.move(1, 2), False)
        self.assertEqual(desk.wrong, [])
        self.assertIs(desk.move(0, 1), False)

    def test_undo_takes_back_the_last_one_first(self):
        desk = desk_of(3, 2, 1)
        for move in [(0, 2), (0, 1), (2, 0), (0, 2)]:
            desk.move(*move)
        self.assertEqual([desk.undo() for _ in range(4)], [(0, 2), (2, 0), (0, 1), (0, 2)])
        self.assertEqual(desk.table.rows, [(3,), (2,), (1,)])

    def test_moves_after_an_undo(self):
        desk = desk_of(3, 2, 1)
        desk.move(0, 2)
        desk.move(0, 1)
        desk.undo()
        desk.move(2, 1)
        self.assertEqual(desk.table.rows, [(2,), (3,), (1,)])
        self.assertEqual([desk.undo(), desk.undo()], [(2, 1), (0, 2)])
        self.assertEqual(desk.table.rows, [(3,), (2,), (1,)])

    def test_rows_that_are_equal_are_moved_too(self):
        desk = desk_of(1, 1)
        self.assertIs(desk.move(0, 1), False)
        self.assertEqual(desk.undo(), (0, 1))

    def test_many_undos(self):
        desk = desk_of(1, 2)
        for _ in range(1000):
            desk.move(0, 1)
        self.assertEqual([desk.undo() for _ in range(1000)], [(0, 1)] * 1000)

    def test_two_desks_of_one_table(self):
        table = Table(BOTH, ROWS)
        one, other = Desk(table, YEAR), Desk(table, YEAR)
        one.move(0, 3)
        self.assertEqual([table.rows, other.table.rows], [ROWS, ROWS])
        self.assertTrue(one.table == Table(BOTH, moved(ROWS, 0, 3)))

    def test_tables_that_were_returned_do_not_change(self):
        desk = year_desk()
        before = desk.table
        desk.move(0, 3)
        self.assertTrue(before == Table(BOTH, ROWS))
        before.rows.clear()
        desk.table.rows.clear()
        self.assertEqual(desk.table.rows, moved(ROWS, 0, 3))

    def test_columns_keep_their_order(self):
        desk = Desk(Table({"b": "numbers", "a": "words"}, [(2, "x"), (1, "y")]), Key())
        desk.move(0, 1)
        self.assertEqual(list(desk.table.columns), ["b", "a"])


class WrongTest(unittest.TestCase):
    def test_pairs_of_rows_that_are_no_neighbours(self):
        self.assertEqual(desk_of(2, 3, 1).wrong, [(0, 2), (1, 2)])
        self.assertEqual(desk_of(4, 3, 2, 1).wrong, [(0, 1), (0, 2), (0, 3), (1, 2), (1, 3), (2, 3)])
        self.assertEqual(desk_of(1, 1, 2).wrong, [])

    def test_kinds_of_values(self):
        found = desk_of(2, 1).wrong
        self.assertEqual([type(found), type(found[0])], [list, tuple])

    def test_the_list_is_new(self):
        desk = desk_of(2, 1)
        self.assertIsNot(desk.wrong, desk.wrong)
        desk.wrong.clear()
        self.assertEqual([desk.wrong, bool(desk)], [[(0, 1)], False])

    def test_8_rows_turned_round(self):
        self.assertEqual(len(desk_of(*range(8, 0, -1)).wrong), 28)

    def test_6_parts(self):
        key = Key(Part(Rest("year", 2)), Part(Size("title")), Part(Ending("title"), down=True), Part(Rest("year", 9)),
                  Part.downward("title"), Part.up("year"))
        rows = [(4, "ab"), (3, "b"), (4, "b"), (5, "aa"), (5, "ab"), (-4, "ab"), (-3, "ba"), (4, "ab")]
        self.assertEqual(Desk(Table(BOTH, rows), key).wrong, wrong_pairs(BOTH, rows, key))
        self.assertEqual(Desk(Table(BOTH, rows), -key).wrong, wrong_pairs(BOTH, rows, -key))

    def test_key_without_parts(self):
        desk = Desk(Table(BOTH, ROWS), Key())
        self.assertEqual([desk.wrong, desk.needed, bool(desk), list(desk.helpful())], [[], 0, True, []])
        self.assertIs(desk.move(3, 0), False)


class NeededTest(unittest.TestCase):
    def test_by_trying(self):
        found = []
        for columns, rows, key, _ in cases(120, rows=5):
            found.append(Desk(Table(columns, rows), key).needed)
            self.assertEqual(found[-1], least_moves(columns, rows, key))
        for many in range(4):
            self.assertIn(many, found)

    def test_all_orders_of_4_rows(self):
        for cells in itertools.permutations(range(4)):
            self.assertEqual(desk_of(*cells).needed, least_moves(NUMBERS, [(cell,) for cell in cells], UP))

    def test_6_rows(self):
        for cells in [(6, 5, 4, 3, 2, 1), (2, 1, 4, 3, 6, 5), (3, 3, 2, 2, 1, 1)]:
            self.assertEqual(desk_of(*cells).needed, least_moves(NUMBERS, [(cell,) for cell in cells], UP))

    def test_8_rows(self):
        self.assertEqual(desk_of(8, 7, 6, 5, 4, 3, 2, 1).needed, 7)
        self.assertEqual(desk_of(1, 2, 3, 4, 5, 6, 7, 8).needed, 0)
        self.assertEqual(desk_of(2, 3, 4, 5, 6, 7, 8, 1).needed, 1)
        self.assertEqual(desk_of(5, 6, 7, 8, 1, 2, 3, 4).needed, 4)
        self.assertEqual(desk_of(1, 1, 1, 1, 1, 1, 1, 1).needed, 0)

    def test_it_follows_the_moves(self):
        desk = desk_of(3, 2, 1)
        found = [desk.needed]
        for move in [(0, 2), (0, 1)]:
            desk.move(*move)
            found.append(desk.needed)
        desk.undo()
        self.assertEqual(found + [desk.needed], [2, 1, 0, 1])

    def test_no_pair_is_wrong_exactly_if_no_move_is_needed(self):
        for columns, rows, key, _ in cases(100):
            desk = Desk(Table(columns, rows), key)
            self.assertIs(desk.needed == 0, bool(desk))


class HelpfulTest(unittest.TestCase):
    def test_many_desks(self):
        seen = 0
        for columns, rows, key, dice in cases(100):
            desk = Desk(Table(columns, rows), key)
            for _ in range(2):
                found = list(desk.helpful())
                self.assertEqual(found, helpful_moves(columns, rows, key))
                seen += len(found)
                index, to = dice.choice(all_moves(len(rows)))
                desk.move(index, to)
                rows = moved(rows, index, to)
        self.assertGreater(seen, 1000)

    def test_it_is_a_generator_of_tuples(self):
        desk = desk_of(2, 1)
        one, other = desk.helpful(), desk.helpful()
        self.assertTrue(inspect.isgenerator(one))
        first = next(one)
        self.assertEqual([first, type(first)], [(0, 1), tuple])
        self.assertEqual([list(one), list(one), list(other)], [[(1, 0)], [], [(0, 1), (1, 0)]])

    def test_nothing_helps_where_nothing_is_wrong(self):
        self.assertEqual(list(desk_of(1, 2, 2, 3).helpful()), [])

    def test_rows_are_moved_between_two_requests(self):
        rows = [(4,), (3,), (2,), (1,)]
        expected = helpful_moves(NUMBERS, rows, UP)
        self.assertGreater(len(expected), 3)
        desk = desk_of(4, 3, 2, 1)
        found = []
        for move in desk.helpful():
            found.append(move)
            desk.move(*move)
        self.assertEqual(found, expected)

    def test_rows_are_moved_before_the_first_request(self):
        desk = desk_of(2, 1)
        asked = desk.helpful()
        desk.move(0, 1)
        self.assertEqual(list(asked), [])
        desk = desk_of(1, 2)
        asked = desk.helpful()
        desk.move(0, 1)
        self.assertEqual(list(asked), [(0, 1), (1, 0)])
        asked = desk.helpful()
        self.assertEqual(next(asked), (0, 1))
        desk.undo()
        self.assertEqual(list(asked), [(1, 0)])

    def test_asking_changes_nothing(self):
        desk = year_desk()
        list(desk.helpful())
        self.assertTrue(desk.table == Table(BOTH, ROWS))
        with self.assertRaises(NothingMoved):
            desk.undo()


class OperatorTest(unittest.TestCase):
    def test_items(self):
        desk = year_desk()
        self.assertEqual([desk[at] for at in range(4)], ROWS)
        self.assertIs(type(desk[0]), tuple)

    def test_membership(self):
        desk = year_desk()
        for row in ROWS:
            self.assertIs(row in desk, True)
            self.assertIs(row not in desk, False)
        for row in [(5, "elm"), (3, "oak"), (6, "oak"), (-5, "oak"), (5, "oa"), (-99, "a")]:
            self.assertIs(row in desk, False)
        desk.move(0, 3)
        self.assertTrue(all(row in desk for row in ROWS))

    def test_booleans_are_no_cells(self):
        desk = desk_of(0, 1)
        self.assertEqual([row in desk for row in [(0,), (1,), (False,), (True,)]], [True, True, False, False])

    def test_length(self):
        for many in range(2, 9):
            self.assertEqual(len(desk_of(*range(many))), many)

    def test_truth(self):
        self.assertIs(bool(desk_of(1, 2, 2)), True)
        self.assertIs(bool(desk_of(1, 2, 1)), False)
        desk = desk_of(2, 1)
        desk.move(1, 0)
        self.assertIs(bool(desk), True)
        desk.undo()
        self.assertIs(bool(desk), False)

    def test_a_desk_is_not_iterated_over(self):
        with self.assertRaises(TypeError):
            list(year_desk())


class RefusalTest(RefusalCase):
    def test_wrong_tables(self):
        for table in [BOTH, ROWS, "table", 1, [], (), {}, Table, YEAR, year_desk()] + strange_values():
            for key in (YEAR, Key(), None, True):
                self.assertIsNone(self.refused(BadTable, Desk, table, key).part)

    def test_wrong_keys(self):
        for key in wrong_keys():
            self.refused(BadKey, Desk, Table(BOTH, ROWS), key)

    def wrong_indices(self, many):
        return [-1, -many, many, many + 1, 10 ** 30, -10 ** 30, "0", "", [0], (0,), (0, 1), {}, {0: 1},
                slice(0, 1)] + strange_values()

    def test_refused_moves_change_nothing(self):
        for many in (2, 8):
            rows = [(cell,) for cell in range(many)][::-1]
            desk = desk_of(*range(many - 1, -1, -1))
            for index in self.wrong_indices(many):
                self.refused(BadMove, desk.move, index, 0)
                self.refused(BadMove, desk.move, index, 1)
                self.refused(BadMove, desk.move, index, index)
                self.refused(BadMove, desk.move, 0, index)
                self.refused(BadMove, desk.move, 1, index)
                self.refused(BadMove, lambda: desk[index])
            for index in range(many):
                self.refused(BadMove, desk.move, index, index)
            self.assertEqual(desk.table.rows, rows)
            self.refused(NothingMoved, desk.undo)
            desk.move(0, 1)
            self.refused(BadMove, desk.move, 1, 1)
            self.refused(BadMove, desk.move, None, None)
            self.assertEqual(desk.table.rows, moved(rows, 0, 1))
            self.assertEqual(desk.undo(), (0, 1))

    def test_indices_at_the_bounds(self):
        desk = desk_of(*range(8))
        self.assertEqual([desk.move(0, 7), desk.move(7, 0), desk[0], desk[7]], [False, True, (0,), (7,)])

    def test_booleans_are_no_indices(self):
        desk = desk_of(2, 1)
        for index, to in [(True, 0), (False, 1), (0, True), (1, False), (True, False)]:
            self.refused(BadMove, desk.move, index, to)
        self.refused(BadMove, lambda: desk[True])
        self.refused(BadMove, lambda: desk[False])
        self.assertEqual(desk.wrong, [(0, 1)])

    def test_refused_undo_changes_nothing(self):
        desk = year_desk()
        for _ in range(2):
            self.refused(NothingMoved, desk.undo)
            self.assertTrue(desk.table == Table(BOTH, ROWS))
        desk.move(0, 3)
        desk.undo()
        self.refused(NothingMoved, desk.undo)
        desk.move(1, 2)
        self.assertEqual(desk.undo(), (1, 2))
        self.refused(NothingMoved, desk.undo)
        self.assertTrue(desk.table == Table(BOTH, ROWS))

    def test_a_list_that_is_changed_afterwards(self):
        rows = list(ROWS)
        desk = Desk(Table(BOTH, rows), YEAR)
        rows.clear()
        self.assertEqual(desk.table.rows, ROWS)


if __name__ == "__main__":
    unittest.main()
