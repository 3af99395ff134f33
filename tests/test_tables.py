"""Tables, rows under keys and candidates: points [1] to [5], and the section on sortreason/tables.py."""

import inspect
import itertools
import unittest

from sortreason import tables
from sortreason.errors import BadKey, BadRow, BadTable
from sortreason.keys import Ending, Key, Measure, Part, Plain, Rest, Size
from sortreason.tables import Ranked, Table
from support import RefusalCase, order, strange_values

BOTH = {"year": "numbers", "title": "words"}
ROWS = [(3, "oak"), (3, "elm"), (5, "ash")]
WORDS = ["a", "ab", "abc", "b", "ba", "elm", "oak", "oaks", "z", "abcdefgh", "zzzzzzzz"]


def both():
    return Table(BOTH, ROWS)


class InterfaceTest(unittest.TestCase):
    def test_example_of_the_document(self):
        table = Table({'year': 'numbers', 'title': 'words'}, [(3, 'oak'), (3, 'elm'), (5, 'ash')])
        key = Key(Part.up('year'), Part.downward('title'))
        found = [table.compared((3, 'oak'), (3, 'elm'), key),
                 Ranked(table, (5, 'ash'), key) < Ranked(table, (3, 'elm'), key), table.place((5, 'ash'), key)]
        self.assertEqual(repr(found), "[-1, False, [5, 'ash']]")

    def test_classes_are_defined_in_the_file(self):
        self.assertEqual([Table.__module__, Ranked.__module__], ["sortreason.tables"] * 2)
        self.assertIs(tables.Table, Table)

    def test_methods_are_defined_in_the_classes_themselves(self):
        for name in ["__init__", "columns", "rows", "pairs", "place", "compared", "candidates", "__eq__"]:
            self.assertIn(name, vars(Table))
        for name in ["__init__", "row", "__lt__", "__eq__"]:
            self.assertIn(name, vars(Ranked))

    def test_arguments_can_be_named(self):
        table = Table(columns=BOTH, rows=ROWS)
        key = Key(Part.up("year"))
        self.assertEqual(table.place(row=ROWS[0], key=key), [3])
        self.assertEqual(table.compared(row=ROWS[0], other=ROWS[2], key=key), -1)
        self.assertEqual(Ranked(table=table, row=ROWS[0], key=key).row, ROWS[0])

    def test_properties_cannot_be_assigned(self):
        for owner, name in [(both(), "columns"), (both(), "rows"), (both(), "pairs"),
                            (Ranked(both(), ROWS[0], Key()), "row")]:
            with self.assertRaises(AttributeError):
                setattr(owner, name, None)


class TableTest(unittest.TestCase):
    def test_properties(self):
        table = both()
        self.assertEqual(list(table.columns.items()), [("year", "numbers"), ("title", "words")])
        self.assertEqual(table.rows, ROWS)
        self.assertEqual(table.pairs, [0, 1])
        self.assertEqual([type(table.columns), type(table.rows), type(table.pairs)], [dict, list, list])
        self.assertTrue(all(type(row) is tuple for row in table.rows))

    def test_columns_keep_their_order(self):
        for names in itertools.permutations(["b", "a", "c"]):
            table = Table({name: "numbers" for name in names}, [(1, 2, 3), (4, 5, 6)])
            self.assertEqual(list(table.columns), list(names))

    def test_rows_may_be_a_tuple(self):
        self.assertEqual(Table(BOTH, tuple(ROWS)).rows, ROWS)
        self.assertTrue(Table(BOTH, tuple(ROWS)) == both())

    def test_1_to_3_columns(self):
        for many in (1, 2, 3):
            columns = dict(list({"a": "numbers", "b": "words", "abcdefgh": "numbers"}.items())[:many])
            rows = [(1, "x", 2)[:many], (3, "y", 4)[:many]]
            table = Table(columns, rows)
            self.assertEqual([table.columns, table.rows], [columns, rows])

    def test_2_to_8_rows(self):
        for many in range(2, 9):
            table = Table({"a": "numbers"}, [(at,) for at in range(many)])
            self.assertEqual(len(table.rows), many)
            self.assertEqual(table.pairs, list(range(many - 1)))

    def test_numbers_at_the_bounds(self):
        rows = [(-99,), (99,), (0,)]
        self.assertEqual(Table({"a": "numbers"}, rows).rows, rows)

    def test_words_at_the_bounds(self):
        rows = [("a",), ("z",), ("abcdefgh",), ("zzzzzzzz",)]
        self.assertEqual(Table({"a": "words"}, rows).rows, rows)

    def test_rows_may_be_equal(self):
        self.assertEqual(Table({"a": "numbers"}, [(1,)] * 8).rows, [(1,)] * 8)

    def test_equality(self):
        self.assertTrue(both() == both())
        self.assertFalse(both() != both())

    def test_tables_with_other_rows_are_unequal(self):
        self.assertFalse(both() == Table(BOTH, ROWS[:2]))
        self.assertFalse(both() == Table(BOTH, ROWS + ROWS[:1]))
        self.assertFalse(both() == Table(BOTH, ROWS[:2] + [(5, "asp")]))

    def test_order_of_rows_counts(self):
        for rows in itertools.permutations(ROWS):
            self.assertEqual(both() == Table(BOTH, rows), list(rows) == ROWS)
            self.assertEqual(both() != Table(BOTH, rows), list(rows) != ROWS)

    def test_order_of_columns_counts(self):
        rows = [(1, 1), (2, 2)]
        one = Table({"a": "numbers", "b": "numbers"}, rows)
        self.assertFalse(one == Table({"b": "numbers", "a": "numbers"}, rows))
        self.assertTrue(one != Table({"b": "numbers", "a": "numbers"}, rows))
        self.assertTrue(one == Table({"a": "numbers", "b": "numbers"}, rows))

    def test_names_of_columns_count(self):
        rows = [(1,), (2,)]
        self.assertFalse(Table({"a": "numbers"}, rows) == Table({"b": "numbers"}, rows))

    def test_a_table_is_not_its_rows(self):
        for other in [ROWS, tuple(ROWS), BOTH, None, "table", 0]:
            self.assertFalse(both() == other)

    def test_arguments_are_not_modified(self):
        columns, rows = dict(BOTH), list(ROWS)
        table = Table(columns, rows)
        list(table.candidates())
        table.place(ROWS[0], Key(Part.up("year")))
        self.assertEqual([list(columns.items()), rows], [list(BOTH.items()), ROWS])

    def test_arguments_are_not_kept(self):
        columns, rows = dict(BOTH), list(ROWS)
        table = Table(columns, rows)
        columns["month"] = "numbers"
        columns["year"] = "words"
        rows[0] = (9, "yew")
        rows.append("no row")
        self.assertEqual([table.columns, table.rows, table.pairs], [BOTH, ROWS, [0, 1]])
        self.assertTrue(table == both())

    def test_results_are_new(self):
        table = both()
        table.columns["month"] = "numbers"
        table.columns.clear()
        table.rows.append((9, "yew"))
        table.rows.clear()
        table.pairs.append(5)
        table.pairs.clear()
        self.assertEqual([table.columns, table.rows, table.pairs], [BOTH, ROWS, [0, 1]])
        self.assertTrue(table == both())


class BadTableTest(RefusalCase):
    def part(self, columns, rows):
        return self.refused(BadTable, Table, columns, rows).part

    def test_columns_of_another_kind(self):
        for columns in [[], ["year", "title"], (), [("year", "numbers"), ("title", "words")], "year", "", 1, 2,
                        both()] + strange_values():
            self.assertEqual(self.part(columns, ROWS), "COLUMNS")

    def test_0_and_4_columns(self):
        self.assertEqual(self.part({}, [(), ()]), "COLUMNS")
        four = dict.fromkeys("abcd", "numbers")
        self.assertEqual(self.part(four, [(1, 2, 3, 4), (1, 2, 3, 4)]), "COLUMNS")

    def test_wrong_names(self):
        for name in ["", "abcdefghi", "A", "a1", "a b", "\u00e4", 0, 1, True, False, None, b"a", ("a",), Plain]:
            self.assertEqual(self.part({name: "numbers"}, [(1,), (2,)]), "COLUMNS")
            self.assertEqual(self.part({"year": "numbers", name: "words"}, ROWS), "COLUMNS")

    def test_wrong_kinds(self):
        for kind in ["", "number", "word", "Numbers", "WORDS", "numbers ", 0, 1, [], ["numbers"], (), {},
                     int] + strange_values():
            self.assertEqual(self.part({"year": kind}, [(1,), (2,)]), "COLUMNS")
            self.assertEqual(self.part({"year": "numbers", "title": kind}, ROWS), "COLUMNS")

    def test_rows_of_another_kind(self):
        for rows in ["ab", "", 1, 2, {}, {0: (1,), 1: (2,)}, {(1,): 0, (2,): 0}, zip([1, 2]),
                     both()] + strange_values():
            self.assertIsNone(self.part({"year": "numbers"}, rows))

    def test_0_1_and_9_rows(self):
        for many in [0, 1, 9, 10, 100]:
            rows = [(at % 9,) for at in range(many)]
            self.assertIsNone(self.part({"year": "numbers"}, rows))
            self.assertIsNone(self.part({"year": "numbers"}, tuple(rows)))

    def test_too_many_rows_of_which_one_is_wrong(self):
        self.assertIsNone(self.part({"year": "numbers"}, [None] * 9))
        self.assertIsNone(self.part({"year": "numbers"}, [None]))

    def test_row_of_another_kind(self):
        for row in [[3, "oak"], "ab", {}, {3: "oak", 4: "elm"}, 3, both()] + strange_values():
            for at in range(3):
                rows = list(ROWS)
                rows[at] = row
                part = self.part(BOTH, rows)
                self.assertEqual([part, type(part)], [at, int])

    def test_row_of_another_length(self):
        for row in [(), (3,), (3, "oak", 1), (3, "oak", "elm"), (3, 4, 5)]:
            self.assertEqual(self.part(BOTH, ROWS[:2] + [row]), 2)

    def test_cells_of_another_kind(self):
        for cell in ["oak", "3", "", [], (), {}, (3,), [3], Plain("year")] + strange_values():
            self.assertEqual(self.part(BOTH, [ROWS[0], (cell, "oak")]), 1)
        for cell in [3, 0, -1, [], (), {}, ("oak",), ["oak"], Plain("year")] + strange_values():
            self.assertEqual(self.part(BOTH, [ROWS[0], (3, cell)]), 1)

    def test_numbers_beyond_the_bounds(self):
        for cell in [-100, 100, 10 ** 30, -10 ** 30]:
            self.assertEqual(self.part({"a": "numbers"}, [(99,), (-99,), (cell,)]), 2)

    def test_words_beyond_the_bounds(self):
        for cell in ["", "abcdefghi", "Oak", "oak ", "oak\n", "o4k", "\u00e4", "o" * 1000]:
            self.assertEqual(self.part({"a": "words"}, [("a",), (cell,)]), 1)

    def test_booleans_are_no_cells(self):
        for cell in [True, False]:
            self.assertEqual(self.part({"a": "numbers"}, [(0,), (1,), (cell,)]), 2)
            self.assertEqual(self.part({"a": "words"}, [(cell,), ("a",)]), 0)

    def test_cells_in_the_order_of_the_columns(self):
        self.assertEqual(self.part(BOTH, [("oak", 3), ("elm", 4)]), 0)

    def test_the_first_wrong_row_is_told(self):
        self.assertEqual(self.part(BOTH, [ROWS[0], None, [], ROWS[1], ()]), 1)
        self.assertEqual(self.part(BOTH, [ROWS[0]] * 7 + [None]), 7)
        self.assertEqual(self.part(BOTH, [(100, "oak"), None]), 0)

    def test_columns_come_before_rows(self):
        for rows in [None, [], [None, None], [(1,)] * 9, ROWS]:
            self.assertEqual(self.part({"Year": "numbers"}, rows), "COLUMNS")

    def test_arguments_are_not_modified(self):
        columns, rows = dict(BOTH), ROWS + [[4, "fir"]]
        self.part(columns, rows)
        self.assertEqual([list(columns.items()), rows], [list(BOTH.items()), ROWS + [[4, "fir"]]])


class PlaceTest(unittest.TestCase):
    def test_measures_part_by_part(self):
        key = Key(Part(Size("title")), Part.downward("year"), Part(Size("year")), Part(Rest("year", 9)),
                  Part(Ending("title"), down=True), Part.up("title"))
        self.assertEqual(both().place((-13, "maple"), key), [5, -13, 13, 5, "e", "maple"])

    def test_directions_do_not_change_the_measures(self):
        for part in both().candidates():
            self.assertEqual(both().place((-7, "oak"), Key(part)), both().place((-7, "oak"), -Key(part)))

    def test_key_without_parts(self):
        self.assertEqual(both().place((3, "oak"), Key()), [])

    def test_row_need_not_be_in_the_table(self):
        self.assertEqual(both().place((-99, "abcdefgh"), Key(Part.up("title"), Part.up("year"))), ["abcdefgh", -99])

    def test_each_column_is_found(self):
        table = Table({"c": "numbers", "a": "words", "b": "numbers"}, [(1, "x", 2), (3, "y", 4)])
        for name, cell in [("c", 1), ("a", "x"), ("b", 2)]:
            self.assertEqual(table.place((1, "x", 2), Key(Part.up(name))), [cell])

    def test_result_is_a_new_list(self):
        table, key = both(), Key(Part.up("year"))
        found = table.place((3, "oak"), key)
        self.assertIs(type(found), list)
        found.append(1)
        self.assertEqual(table.place((3, "oak"), key), [3])


class ComparedTest(unittest.TestCase):
    def check(self, columns, rows, keys):
        table = Table(columns, rows[:2])
        for parts in keys:
            for one, other in itertools.product(rows, rows):
                expected = order(columns, one, other, parts)
                found = table.compared(one, other, Key(*parts))
                self.assertEqual([found, type(found)], [expected, int], (one, other))
                first, second = Ranked(table, one, Key(*parts)), Ranked(table, other, Key(*parts))
                self.assertIs(first < second, expected == -1)
                self.assertIs(first > second, expected == 1)
                self.assertIs(first == second, expected == 0)
                self.assertIs(first != second, expected != 0)

    def test_numbers(self):
        rows = [(cell,) for cell in [-99, -12, -10, -9, -3, -1, 0, 1, 2, 3, 9, 10, 12, 99]]
        parts = list(Table({"a": "numbers"}, rows[:2]).candidates())
        self.check({"a": "numbers"}, rows, [(one,) for one in parts] + list(itertools.permutations(parts, 2)))

    def test_words(self):
        rows = [(word,) for word in WORDS]
        parts = list(Table({"a": "words"}, rows[:2]).candidates())
        self.check({"a": "words"}, rows, [(one,) for one in parts] + list(itertools.permutations(parts, 2)))

    def test_both(self):
        rows = [(3, "oak"), (3, "elm"), (-3, "oak"), (4, "elm"), (4, "oaks"), (-4, "ash"), (3, "oak")]
        parts = list(both().candidates())
        self.check(BOTH, rows, itertools.product(parts, parts))

    def test_all_divisors(self):
        rows = [(cell,) for cell in [-99, -7, -2, 0, 1, 5, 18, 99]]
        for divisor in range(2, 10):
            part = Part(Rest("a", divisor))
            self.check({"a": "numbers"}, rows, [(part,), (-part,), (part, Part.downward("a"))])

    def test_6_parts(self):
        columns = {"a": "numbers", "b": "words", "c": "numbers"}
        rows = [(1, "x", 2), (1, "y", 2), (-1, "x", 2), (3, "xx", 2), (1, "x", -2), (1, "yx", 4), (3, "x", 4)]
        parts = [Part(Rest("c", 2)), Part(Size("a"), down=True), Part(Ending("b")), Part(Size("b")), Part.up("c"),
                 Part.downward("a")]
        self.check(columns, rows, [parts, [-part for part in parts], parts[::-1]])

    def test_key_without_parts_ties_all(self):
        self.assertEqual(both().compared((3, "oak"), (-99, "a"), Key()), 0)

    def test_equal_rows_are_tied(self):
        for part in both().candidates():
            self.assertEqual(both().compared((3, "oak"), (3, "oak"), Key(part)), 0)

    def test_first_part_that_does_not_tie_decides(self):
        table = both()
        key = Key(Part(Size("title")), Part.downward("year"), Part.up("title"))
        self.assertEqual(table.compared((1, "oak"), (9, "maple"), key), -1)
        self.assertEqual(table.compared((1, "oak"), (9, "elm"), key), 1)
        self.assertEqual(table.compared((9, "oak"), (1, "elm"), key), -1)
        self.assertEqual(table.compared((1, "oak"), (1, "elm"), key), 1)
        self.assertEqual(table.compared((1, "elm"), (1, "oak"), key), -1)

    def test_words_are_compared_alphabetically(self):
        table = Table({"a": "words"}, [("a",), ("b",)])
        key = Key(Part.up("a"))
        self.assertEqual(table.compared(("abcdefgh",), ("b",), key), -1)
        self.assertEqual(table.compared(("a",), ("aa",), key), -1)
        self.assertEqual(table.compared(("a",), ("aa",), -key), 1)
        self.assertEqual(table.compared(("zzzzzzzz",), ("zzzzzzz",), -key), -1)

    def test_sizes_and_rests_of_negative_numbers(self):
        table = Table({"a": "numbers"}, [(1,), (2,)])
        self.assertEqual(table.compared((-5,), (4,), Key(Part(Size("a")))), 1)
        self.assertEqual(table.compared((-5,), (5,), Key(Part(Size("a")))), 0)
        self.assertEqual(table.compared((-1,), (1,), Key(Part(Rest("a", 3)))), 1)
        self.assertEqual(table.compared((-1,), (1,), Key(Part(Rest("a", 2)))), 0)

    def test_rows_need_not_be_in_the_table(self):
        self.assertEqual(both().compared((-99, "zzzzzzzz"), (99, "a"), Key(Part.up("year"))), -1)


class CandidatesTest(unittest.TestCase):
    def test_column_of_numbers(self):
        table = Table({"a": "numbers"}, [(1,), (2,)])
        measures = [Plain("a"), Size("a"), Rest("a", 2), Rest("a", 3)]
        expected = [Part(measure, down=down) for measure in measures for down in (False, True)]
        self.assertEqual(list(table.candidates()), expected)

    def test_column_of_words(self):
        table = Table({"a": "words"}, [("a",), ("b",)])
        measures = [Plain("a"), Size("a"), Ending("a")]
        expected = [Part(measure, down=down) for measure in measures for down in (False, True)]
        self.assertEqual(list(table.candidates()), expected)

    def test_columns_in_their_order(self):
        table = Table({"c": "words", "a": "numbers", "b": "words"}, [("x", 1, "y"), ("x", 2, "y")])
        found = [part.measure.name for part in table.candidates()]
        self.assertEqual(found, ["c"] * 6 + ["a"] * 8 + ["b"] * 6)

    def test_columns_one_after_the_other(self):
        words = list(Table({"b": "words"}, [("a",), ("b",)]).candidates())
        numbers = list(Table({"a": "numbers"}, [(1,), (2,)]).candidates())
        table = Table({"b": "words", "a": "numbers"}, [("a", 1), ("b", 2)])
        self.assertEqual(list(table.candidates()), words + numbers)

    def test_they_depend_on_the_columns_alone(self):
        one, other = Table(BOTH, ROWS), Table(BOTH, [(1, "x"), (1, "x")])
        self.assertEqual(list(one.candidates()), list(other.candidates()))

    def test_all_are_different_and_possible(self):
        table = Table({"a": "numbers", "b": "words", "c": "numbers"}, [(1, "x", 2), (3, "y", 4)])
        found = list(table.candidates())
        self.assertEqual(len(found), 22)
        for at, part in enumerate(found):
            self.assertNotIn(part, found[:at])
            self.assertEqual(len(table.place((1, "x", 2), Key(part))), 1)

    def test_it_is_a_generator(self):
        table = both()
        one, other = table.candidates(), table.candidates()
        self.assertTrue(inspect.isgenerator(one))
        self.assertEqual(next(one), Part.up("year"))
        self.assertEqual(next(one), Part.downward("year"))
        self.assertEqual(next(other), Part.up("year"))
        self.assertEqual(len(list(one)), 12)
        self.assertEqual(list(one), [])


class RefusedRowsAndKeysTest(RefusalCase):
    def wrong_rows(self):
        return [[3, "oak"], (), (3,), (3, "oak", 1), ("oak", 3), (100, "oak"), (-100, "oak"), (3, ""), (3, "abcdefghi"),
                (3, "Oak"), (True, "oak"), (3, True), (None, "oak"), (3, None), ("3", "oak"), "ab", 3, {}, [],
                both()] + strange_values()

    def wrong_keys(self):
        return [Part.up("year"), Plain("year"), "year", "", 1, [], [Part.up("year")], (), {}, Key] + strange_values()

    def impossible_keys(self):
        wrong = [Part.up("month"), Part.up("yea"), Part(Size("month")), Part(Rest("month", 2)), Part(Ending("month")),
                 Part(Rest("title", 2)), Part(Ending("year")), Part(Ending("year"), down=True), Part(Measure("year"))]
        good = Part.up("year")
        return [Key(part) for part in wrong] + [Key(good, part) for part in wrong] + [Key(*[good] * 5, wrong[0])]

    def calls(self, row, key):
        table = both()
        return [(table.place, row, key), (table.compared, row, (3, "oak"), key),
                (table.compared, (3, "oak"), row, key), (Ranked, table, row, key)]

    def test_wrong_rows(self):
        for row in self.wrong_rows():
            for call in self.calls(row, Key(Part.up("year"))):
                self.refused(BadRow, *call)

    def test_wrong_rows_with_a_key_without_parts(self):
        for row in self.wrong_rows():
            for call in self.calls(row, Key()):
                self.refused(BadRow, *call)

    def test_wrong_keys(self):
        for key in self.wrong_keys() + self.impossible_keys():
            for call in self.calls((3, "oak"), key):
                self.refused(BadKey, *call)

    def test_rows_come_before_keys(self):
        for row in self.wrong_rows():
            for key in [None, True, Key(Part.up("month")), Key(Part(Ending("year")))]:
                for call in self.calls(row, key):
                    self.refused(BadRow, *call)

    def test_both_rows_wrong(self):
        self.refused(BadRow, both().compared, None, None, None)
        self.refused(BadRow, both().compared, (3, "oak"), None, None)
        self.refused(BadRow, both().compared, None, (3, "oak"), None)

    def test_possible_keys(self):
        for part in [Part.up("year"), Part.up("title"), Part(Size("year")), Part(Size("title")), Part(Rest("year", 9)),
                     Part(Ending("title"))]:
            for call, *rest in self.calls((3, "oak"), Key(part)):
                call(*rest)

    def test_wrong_tables(self):
        for table in [BOTH, ROWS, "table", 1, [], (), {}, Table] + strange_values():
            for row in [(3, "oak"), None, True]:
                for key in [Key(), None, False]:
                    self.assertIsNone(self.refused(BadTable, Ranked, table, row, key).part)

    def test_a_refused_call_changes_nothing(self):
        table, key = both(), Key(Part.up("year"))
        self.refused(BadRow, table.place, None, key)
        self.refused(BadKey, table.place, (3, "oak"), None)
        self.refused(BadRow, table.compared, (3, "oak"), None, key)
        self.refused(BadKey, Ranked, table, (3, "oak"), Key(Part.up("month")))
        self.assertTrue(table == both())
        self.assertTrue(key == Key(Part.up("year")))
        self.assertEqual(table.place((3, "oak"), key), [3])


class RankedTest(unittest.TestCase):
    def test_row(self):
        self.assertEqual(Ranked(both(), (9, "yew"), Key()).row, (9, "yew"))

    def test_it_sorts(self):
        table = both()
        rows = [(5, "oak"), (3, "elm"), (4, "ash"), (5, "fir"), (3, "elm"), (-5, "yew")]
        key = Key(Part(Size("year"), down=True), Part.up("title"))
        found = sorted([Ranked(table, row, key) for row in rows])
        self.assertEqual([one.row for one in found],
                         [(5, "fir"), (5, "oak"), (-5, "yew"), (4, "ash"), (3, "elm"), (3, "elm")])

    def test_tied_rows_may_be_different(self):
        table, key = both(), Key(Part(Rest("year", 2)))
        one, other = Ranked(table, (3, "oak"), key), Ranked(table, (5, "ash"), key)
        self.assertIs(one == other, True)
        self.assertIs(one != other, False)
        self.assertIs(one < other, False)
        self.assertIs(other < one, False)

    def test_key_without_parts_ties_all(self):
        self.assertIs(Ranked(both(), (1, "a"), Key()) == Ranked(both(), (2, "b"), Key()), True)

    def test_directions_are_those_of_the_key(self):
        table = both()
        for part in [Part.up("title"), Part.up("year")]:
            one, other = Ranked(table, (1, "a"), Key(part)), Ranked(table, (2, "ab"), Key(part))
            self.assertEqual([one < other, other < one], [True, False])
            one, other = Ranked(table, (1, "a"), Key(-part)), Ranked(table, (2, "ab"), Key(-part))
            self.assertEqual([one < other, other < one], [False, True])

    def test_it_is_not_its_row(self):
        self.assertFalse(Ranked(both(), (1, "a"), Key()) == (1, "a"))


if __name__ == "__main__":
    unittest.main()
