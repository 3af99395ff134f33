"""Steady rows, places and sorted rows: points [8] and [9], and the section on sortreason/arranging.py."""

import functools
import inspect
import itertools
import unittest

from sortreason import arranging
from sortreason.arranging import Arrangement, arrangement, places, sorted_rows
from sortreason.errors import BadKey, BadRow, BadTable
from sortreason.keys import Ending, Key, Part, Rest, Size
from sortreason.tables import Table
from support import Dice, RefusalCase, order, strange_values, wrong_keys

BOTH = {"year": "numbers", "title": "words"}
ROWS = [(5, "oak"), (3, "elm"), (4, "ash"), (5, "fir")]
YEAR = Key(Part.up("year"))
NUMBERS = {"a": "numbers"}
UP = Key(Part.up("a"))


def both():
    return Table(BOTH, ROWS)


def numbers(*cells):
    return Table(NUMBERS, [(cell,) for cell in cells])


def compared(table, key, one, other):
    return order(table.columns, table.rows[one], table.rows[other], key.parts)


def all_steady(table, key):
    """The greatest tuples of steady indices, in order, by trying all sets of rows."""
    indices = range(len(table.rows))
    for many in reversed(range(len(table.rows) + 1)):
        found = [chosen for chosen in itertools.combinations(indices, many)
                 if all(compared(table, key, *two) < 1 for two in itertools.combinations(chosen, 2))]
        if found:
            return found


def are_right(table, key, steady, falls):
    """Whether steady indices and falls are as in point [8], but for the first ones."""
    if steady not in all_steady(table, key) or len(falls) != len(steady):
        return False
    if sorted(at for fall in falls for at in fall) != list(range(len(table.rows))):
        return False
    return all(list(fall) == sorted(fall) for fall in falls) and all(
        compared(table, key, *two) == 1 for fall in falls for two in itertools.combinations(fall, 2))


def cases(many, rows=8, parts=3):
    """Tables with many ties, and keys."""
    for seed in range(many):
        dice = Dice(seed)
        columns = dice.columns()
        yield Table(columns, dice.rows(columns, 2, rows)), dice.key(columns, parts), dice


class InterfaceTest(unittest.TestCase):
    def test_example_of_the_document(self):
        table = Table({'year': 'numbers', 'title': 'words'}, [(5, 'oak'), (3, 'elm'), (4, 'ash'), (5, 'fir')])
        key = Key(Part.up('year'))
        found = arrangement(table, key)
        told = [found.steady, len(found.falls), sorted_rows(table, key).rows[2:],
                places(sorted_rows(table, key), (4, 'yew'), key)]
        self.assertEqual(repr(told), "[(1, 2, 3), 3, [(5, 'oak'), (5, 'fir')], [1, 2]]")

    def test_all_are_defined_in_the_file(self):
        for name in ["arrangement", "Arrangement", "places", "sorted_rows"]:
            self.assertEqual(getattr(arranging, name).__module__, "sortreason.arranging")

    def test_methods_are_defined_in_the_class_itself(self):
        for name in ["__init__", "__eq__", "shows"]:
            self.assertIn(name, vars(Arrangement))

    def test_arguments_have_their_names(self):
        listed = {arrangement: ["table", "key"], Arrangement: ["steady", "falls"], places: ["table", "row", "key"],
                  Arrangement.shows: ["self", "table", "key"], sorted_rows: ["table", "key"]}
        for call, names in listed.items():
            self.assertEqual(list(inspect.signature(call).parameters), names)

    def test_attributes_are_set_when_the_object_is_created(self):
        self.assertEqual(vars(Arrangement((0, 2), [(1,), (0, 2)])), {"steady": (0, 2), "falls": [(1,), (0, 2)]})


class ArrangementTest(unittest.TestCase):
    def check(self, table, key):
        found = arrangement(table, key)
        self.assertIs(type(found), Arrangement)
        self.assertEqual([type(found.steady), type(found.falls)], [tuple, list])
        self.assertTrue(all(type(fall) is tuple for fall in found.falls))
        self.assertEqual(found.steady, all_steady(table, key)[0])
        self.assertTrue(are_right(table, key, found.steady, found.falls))
        self.assertIs(found.shows(table, key), True)
        return len(found.steady)

    def test_many_tables(self):
        found = [self.check(table, key) for table, key, _ in cases(300)]
        for many in range(1, 9):
            self.assertIn(many, found)

    def test_all_orders_of_few_numbers(self):
        for cells in itertools.product([-1, 0, 1, 2], repeat=4):
            self.check(numbers(*cells), UP)
            self.check(numbers(*cells), -UP)

    def test_all_orders_of_5_numbers(self):
        for cells in itertools.permutations(range(5)):
            self.check(numbers(*cells), UP)

    def test_sorted_rows_are_all_steady(self):
        found = arrangement(numbers(1, 2, 2, 3, 9), UP)
        self.assertEqual([found.steady, sorted(found.falls)], [(0, 1, 2, 3, 4), [(0,), (1,), (2,), (3,), (4,)]])

    def test_rows_that_are_turned_round(self):
        found = arrangement(numbers(8, 7, 6, 5, 4, 3, 2, 1), UP)
        self.assertEqual([found.steady, found.falls], [(0,), [(0, 1, 2, 3, 4, 5, 6, 7)]])

    def test_the_key_without_parts_ties_all(self):
        found = arrangement(both(), Key())
        self.assertEqual([found.steady, sorted(found.falls)], [(0, 1, 2, 3), [(0,), (1,), (2,), (3,)]])

    def test_the_first_of_equally_many(self):
        self.assertEqual(arrangement(numbers(1, 0), UP).steady, (0,))
        self.assertEqual(arrangement(numbers(3, 1, 4, 2), UP).steady, (0, 2))
        self.assertEqual(arrangement(numbers(5, 1, 6, 2, 7, 3), UP).steady, (0, 2, 4))
        self.assertEqual(arrangement(numbers(5, 1, 6, 2, 7, 3, 4), UP).steady, (1, 3, 5, 6))
        self.assertEqual(arrangement(numbers(1, 5, 2, 2), UP).steady, (0, 2, 3))

    def test_2_and_8_rows_3_columns_6_parts(self):
        columns = {"a": "numbers", "b": "words", "c": "numbers"}
        key = Key(Part(Rest("a", 2)), Part(Size("b"), down=True), Part(Ending("b")), Part(Rest("c", 9)), Part.up("a"),
                  Part.downward("c"))
        rows = [(at * 5 % 7 - 3, "ab"[at % 2] * (1 + at % 3), at * 3 % 5 - 2) for at in range(8)]
        for many in range(2, 9):
            for start in range(9 - many):
                self.check(Table(columns, rows[start:start + many]), key)
                self.check(Table(columns, rows[start:start + many]), -key)

    def test_results_are_new(self):
        table = both()
        found = arrangement(table, YEAR)
        found.falls.clear()
        found.steady = ()
        self.assertEqual(len(arrangement(table, YEAR).falls), 3)
        self.assertTrue(table == both())


class ShowsTest(unittest.TestCase):
    def test_falls_in_any_order(self):
        for falls in itertools.permutations([(0, 1), (2,), (3,)]):
            self.assertIs(Arrangement((1, 2, 3), list(falls)).shows(both(), YEAR), True)

    def test_other_falls(self):
        self.assertIs(Arrangement((1, 2, 3), [(0, 2), (1,), (3,)]).shows(both(), YEAR), True)
        self.assertIs(Arrangement((1, 2, 3), [(0, 3), (1,), (2,)]).shows(both(), YEAR), False)

    def test_steady_rows_that_are_not_the_first_ones(self):
        self.assertIs(Arrangement((0,), [(0, 1)]).shows(numbers(2, 1), UP), True)
        self.assertIs(Arrangement((1,), [(0, 1)]).shows(numbers(2, 1), UP), True)
        for table, key, _ in cases(60):
            falls = arrangement(table, key).falls
            for steady in all_steady(table, key):
                self.assertIs(Arrangement(steady, falls).shows(table, key), True)

    def test_all_tuples_of_indices(self):
        table, falls = both(), [(0, 1), (2,), (3,)]
        for many in range(5):
            for steady in itertools.product(range(-1, 5), repeat=many):
                self.assertIs(Arrangement(steady, falls).shows(table, YEAR), steady == (1, 2, 3))

    def test_fewer_steady_rows_and_fewer_falls(self):
        self.assertIs(Arrangement((), []).shows(both(), YEAR), False)
        self.assertIs(Arrangement((1, 2), [(0, 1), (2,)]).shows(both(), YEAR), False)
        self.assertIs(Arrangement((1, 2), [(0, 1), (2,), (3,)]).shows(both(), YEAR), False)
        self.assertIs(Arrangement((), [(0, 1), (2,), (3,)]).shows(both(), YEAR), False)

    def wrong_falls(self, falls):
        """Falls in each of which one thing is changed."""
        yield from [[], falls + [()], falls + [falls[0]], falls + [(9,)], falls[1:], falls[:-1]]
        for at, fall in enumerate(falls):
            for place in range(len(fall)):
                yield falls[:at] + [fall[:place] + fall[place + 1:]] + falls[at + 1:]
                for other in (-1, 0, 1, 7, 8, 10 ** 30, True, False):
                    yield falls[:at] + [fall[:place] + (other,) + fall[place + 1:]] + falls[at + 1:]
            for other in (0, 1, 8):
                yield falls[:at] + [fall + (other,)] + falls[at + 1:]
            yield falls[:at] + [fall[::-1]] + falls[at + 1:]
            yield falls[:at] + [fall + fall] + falls[at + 1:]

    def test_falls_with_one_thing_changed(self):
        seen = 0
        for table, key, _ in cases(60, rows=6):
            found = arrangement(table, key)
            for falls in self.wrong_falls(list(found.falls)):
                found.falls = falls
                expected = are_right(table, key, found.steady, falls)
                if any(type(at) is bool for fall in falls for at in fall):
                    expected = False
                self.assertIs(found.shows(table, key), expected, (table.rows, falls))
                seen += not expected
        self.assertGreater(seen, 1000)

    def test_indices_missing_twice_out_of_range_and_in_a_wrong_order(self):
        for falls in [[(0,), (2,), (3,)], [(0, 1), (2,), (2,)], [(0, 1), (0, 2), (3,)], [(0, 1), (2,), (4,)],
                      [(0, 1), (2,), (-1,)], [(1, 0), (2,), (3,)], [(0, 1), (2,), (3,), ()], [(0, 1), (2,)],
                      [(0, 1), (2, 3)], [(0,), (1,), (2,), (3,)], [(0, 1, 2), (3,), ()], [(0, 1), (2, 3), ()]]:
            self.assertIs(Arrangement((1, 2, 3), falls).shows(both(), YEAR), False, falls)

    def test_booleans_are_no_indices(self):
        table = numbers(2, 1)
        for steady in ((True,), (False,)):
            self.assertIs(Arrangement(steady, [(0, 1)]).shows(table, UP), False)
        for falls in ([(0, True)], [(False, 1)], [(False, True)]):
            self.assertIs(Arrangement((0,), falls).shows(table, UP), False)

    def test_tied_rows_are_no_fall(self):
        self.assertIs(Arrangement((0, 1), [(0,), (1,)]).shows(numbers(1, 1), UP), True)
        self.assertIs(Arrangement((0,), [(0, 1)]).shows(numbers(1, 1), UP), False)
        self.assertIs(Arrangement((0, 1), [(0, 1)]).shows(numbers(1, 1), UP), False)

    def test_other_tables_and_keys(self):
        found = arrangement(both(), YEAR)
        self.assertIs(found.shows(both(), -YEAR), False)
        self.assertIs(found.shows(both(), Key()), False)
        self.assertIs(found.shows(Table(BOTH, ROWS[:3]), YEAR), False)
        self.assertIs(found.shows(Table(BOTH, ROWS + [(6, "yew")]), YEAR), False)
        self.assertIs(found.shows(Table(BOTH, ROWS[::-1]), YEAR), False)

    def test_attributes_that_are_set_afterwards(self):
        found = Arrangement((), [])
        found.steady = (1, 2, 3)
        self.assertIs(found.shows(both(), YEAR), False)
        found.falls = [(3,), (2,), (0, 1)]
        self.assertIs(found.shows(both(), YEAR), True)
        found.falls.append((0,))
        self.assertIs(found.shows(both(), YEAR), False)
        found.falls.pop()
        self.assertIs(found.shows(both(), YEAR), True)
        found.steady = (0, 1, 2)
        self.assertIs(found.shows(both(), YEAR), False)


class ArrangementObjectTest(unittest.TestCase):
    def test_the_list_is_copied(self):
        falls = [(0, 1), (2,), (3,)]
        found = Arrangement((1, 2, 3), falls)
        falls.clear()
        self.assertEqual(found.falls, [(0, 1), (2,), (3,)])
        self.assertIs(found.shows(both(), YEAR), True)
        falls = [(0,)]
        Arrangement((0,), falls).falls.append((1,))
        self.assertEqual(falls, [(0,)])

    def test_equality(self):
        made = [((1,), [(0, 1)]), ((0,), [(0, 1)]), ((0,), [(0,), (1,)]), ((), []), ((0, 1), [(0,), (1,)]),
                ((0, 1), [(1,), (0,)])]
        for at, (steady, falls) in enumerate(made):
            for place, (other, others) in enumerate(made):
                self.assertIs(Arrangement(steady, falls) == Arrangement(other, others), at == place)
                self.assertIs(Arrangement(steady, falls) != Arrangement(other, others), at != place)
        self.assertFalse(Arrangement((0,), [(0,)]) == ((0,), [(0,)]))

    def test_equality_is_of_the_current_attributes(self):
        one, other = Arrangement((0,), [(0,)]), Arrangement((0,), [(0,)])
        one.falls.append((1,))
        self.assertFalse(one == other)
        other.falls.append((1,))
        self.assertTrue(one == other)
        one.steady = (1,)
        self.assertFalse(one == other)

    def test_arrangements_of_equal_tables(self):
        self.assertTrue(arrangement(both(), YEAR) == arrangement(both(), YEAR))


class PlacesTest(unittest.TestCase):
    def by_trying(self, table, row, key):
        """The places, by comparing the row with all others at each index."""
        found = []
        for at in range(len(table.rows) + 1):
            before = [order(table.columns, other, row, key.parts) for other in table.rows[:at]]
            behind = [order(table.columns, row, other, key.parts) for other in table.rows[at:]]
            if 1 not in before + behind:
                found.append(at)
        return found

    def test_sorted_tables(self):
        table = numbers(1, 3, 3, 5)
        expected = {0: [0], 1: [0, 1], 2: [1], 3: [1, 2, 3], 4: [3], 5: [3, 4], 6: [4], -99: [0], 99: [4]}
        for cell, found in expected.items():
            self.assertEqual(places(table, (cell,), UP), found)

    def test_tables_that_are_not_sorted(self):
        self.assertEqual(places(numbers(3, 1, 9), (2,), UP), [])
        self.assertEqual(places(numbers(3, 1, 9), (5,), UP), [2])
        self.assertEqual(places(numbers(3, 1, 9), (0,), UP), [0])
        self.assertEqual(places(numbers(3, 1), (3,), UP), [2])
        self.assertEqual(places(numbers(3, 1), (1,), UP), [0])
        self.assertEqual(places(numbers(9, 8, 7, 6), (7,), UP), [])

    def test_the_key_without_parts(self):
        self.assertEqual(places(both(), (0, "x"), Key()), [0, 1, 2, 3, 4])

    def test_8_rows(self):
        table = numbers(*range(8))
        self.assertEqual(places(table, (8,), UP), [8])
        self.assertEqual(places(table, (8,), -UP), [0])
        self.assertEqual(places(table, (3,), -UP), [])
        self.assertEqual(places(numbers(*[4] * 8), (4,), UP), list(range(9)))

    def test_many_tables(self):
        found = []
        for table, key, dice in cases(300, parts=6):
            for chosen in (table, sorted_rows(table, key)):
                row = dice.row(table.columns)
                told = places(chosen, row, key)
                self.assertEqual(told, self.by_trying(chosen, row, key))
                self.assertIs(type(told), list)
                found.append(len(told))
        self.assertGreater(found.count(0), 50)
        self.assertGreater(found.count(1), 50)
        self.assertGreater(found.count(2), 30)

    def test_the_result_is_new(self):
        table = numbers(1, 2)
        places(table, (1,), UP).clear()
        self.assertEqual(places(table, (1,), UP), [0, 1])


class SortedRowsTest(unittest.TestCase):
    def check(self, table, key):
        compare = functools.cmp_to_key(lambda one, other: order(table.columns, one, other, key.parts))
        columns, rows = list(table.columns.items()), table.rows
        found = sorted_rows(table, key)
        self.assertIs(type(found), Table)
        self.assertEqual(found.rows, sorted(rows, key=compare))
        self.assertEqual(list(found.columns.items()), columns)
        self.assertEqual([list(table.columns.items()), table.rows], [columns, rows])
        self.assertTrue(sorted_rows(found, key) == found)

    def test_many_tables(self):
        for table, key, _ in cases(300, parts=6):
            self.check(table, key)
            self.check(table, -key)

    def test_rows_that_are_tied_keep_their_order(self):
        table = Table(BOTH, [(5, "oak"), (3, "elm"), (5, "ash"), (3, "yew"), (5, "fir"), (3, "elm")])
        up = [(3, "elm"), (3, "yew"), (3, "elm"), (5, "oak"), (5, "ash"), (5, "fir")]
        self.assertEqual(sorted_rows(table, YEAR).rows, up)
        self.assertEqual(sorted_rows(table, -YEAR).rows, up[3:] + up[:3])

    def test_all_orders_of_few_numbers(self):
        for many in (2, 3, 4):
            for cells in itertools.product([-1, 0, 1, 2], repeat=many):
                self.check(numbers(*cells), UP)
                self.check(numbers(*cells), -UP)
                self.check(numbers(*cells), Key(Part(Size("a"))))

    def test_2_and_8_rows(self):
        self.assertEqual(sorted_rows(numbers(2, 1), UP).rows, [(1,), (2,)])
        self.assertEqual(sorted_rows(numbers(2, 1), -UP).rows, [(2,), (1,)])
        self.assertEqual(sorted_rows(numbers(8, 7, 6, 5, 4, 3, 2, 1), UP).rows, [(at,) for at in range(1, 9)])
        self.assertEqual(sorted_rows(numbers(*[4] * 8), UP).rows, [(4,)] * 8)

    def test_the_key_without_parts_keeps_all(self):
        for table, _, _ in cases(20):
            self.assertTrue(sorted_rows(table, Key()) == table)

    def test_columns_keep_their_order(self):
        table = Table({"b": "numbers", "a": "words"}, [(2, "x"), (1, "y")])
        self.assertTrue(sorted_rows(table, Key(Part.up("b"))) == Table({"b": "numbers", "a": "words"},
                                                                      [(1, "y"), (2, "x")]))

    def test_6_parts_and_8_rows(self):
        rows = [(at % 2, "ba"[at // 2 % 2] + "x" * (at // 4)) for at in range(8)]
        key = Key(Part(Size("title")), Part(Size("title")), Part(Ending("title")), Part(Rest("year", 2), down=True),
                  Part.up("title"), Part.up("year"))
        self.check(Table(BOTH, rows), key)


class RefusalTest(RefusalCase):
    def calls(self, table, key):
        return [(arrangement, table, key), (places, table, ROWS[0], key), (sorted_rows, table, key),
                (Arrangement((0,), [(0,)]).shows, table, key)]

    def test_wrong_tables(self):
        for table in [BOTH, ROWS, "table", 1, [], (), {}, Table, YEAR] + strange_values():
            for key in (YEAR, None, True, Key(Part.up("month"))):
                for call in self.calls(table, key):
                    self.assertIsNone(self.refused(BadTable, *call).part)
                self.assertIsNone(self.refused(BadTable, places, table, None, key).part)

    def test_wrong_keys(self):
        for key in wrong_keys():
            for call in self.calls(both(), key):
                self.refused(BadKey, *call)

    def test_wrong_rows(self):
        wrong = [[3, "oak"], (), (3,), (3, "oak", 1), ("oak", 3), (100, "oak"), (-100, "oak"), (3, ""), (3, "Oak"),
                 (3, "abcdefghi"), (True, "oak"), (3, True), (None, "oak"), "ab", 3, {}, [], both()]
        for row in wrong + strange_values():
            for key in (YEAR, Key(), None, True, Key(Part.up("month"))):
                self.refused(BadRow, places, both(), row, key)

    def test_a_refused_call_changes_nothing(self):
        table, found = both(), Arrangement((1, 2, 3), [(0, 1), (2,), (3,)])
        self.refused(BadKey, found.shows, table, None)
        self.refused(BadRow, places, table, [], YEAR)
        self.assertTrue(table == both())
        self.assertTrue(found == Arrangement((1, 2, 3), [(0, 1), (2,), (3,)]))


if __name__ == "__main__":
    unittest.main()
