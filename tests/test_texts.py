"""Texts of tables and keys: point [11], and the section on sortreason/texts.py."""

import inspect
import itertools
import unittest

from sortreason import texts
from sortreason.errors import BadKey, BadTable, BadText
from sortreason.keys import Ending, Key, Part, Plain, Rest, Size
from sortreason.tables import Table
from sortreason.texts import key_text, read_key, read_table, table_text
from support import Dice, RefusalCase, strange_values

HEAD = "columns year numbers title words\n"
TEXT = HEAD + "row -3 oak\nrow 0 elm\n"
BOTH = {"year": "numbers", "title": "words"}
ROWS = [(-3, "oak"), (0, "elm")]


class InterfaceTest(RefusalCase):
    def test_examples_of_the_document(self):
        text = key_text(Key(Part.downward('year'), Part(Size('title')), Part(Rest('year', 3))))
        found = [text, read_key(text)[2] == Part(Rest('year', 3)), len(read_key(''))]
        self.assertEqual(repr(found), "['year down, size title up, rest year 3 up', True, 0]")
        self.assertEqual(self.refused(BadText, read_table, 'columns year numbers\nrow 3\nrow 03\n').line, 2)

    def test_all_are_defined_in_the_file(self):
        for name in ["table_text", "key_text", "read_table", "read_key"]:
            self.assertEqual(getattr(texts, name).__module__, "sortreason.texts")

    def test_arguments_have_their_names(self):
        for call, names in {table_text: ["table"], key_text: ["key"], read_table: ["text"], read_key: ["text"]}.items():
            self.assertEqual(list(inspect.signature(call).parameters), names)


class TableTextTest(unittest.TestCase):
    def test_written(self):
        self.assertEqual(table_text(Table(BOTH, ROWS)), TEXT)
        self.assertEqual(table_text(Table({"a": "words"}, [("x",), ("y",)])), "columns a words\nrow x\nrow y\n")

    def test_columns_in_their_order(self):
        table = Table({"b": "words", "c": "words", "a": "numbers"}, [("x", "y", 1), ("z", "z", 2)])
        self.assertEqual(table_text(table), "columns b words c words a numbers\nrow x y 1\nrow z z 2\n")

    def test_numbers(self):
        for cell, written in [(-99, "-99"), (-10, "-10"), (-9, "-9"), (-1, "-1"), (0, "0"), (9, "9"), (10, "10"),
                              (99, "99")]:
            table = Table({"a": "numbers"}, [(cell,), (cell,)])
            text = "columns a numbers\nrow " + written + "\nrow " + written + "\n"
            self.assertEqual(table_text(table), text)
            self.assertTrue(read_table(text) == table)

    def test_all_numbers(self):
        for cell in range(-99, 100):
            table = Table({"a": "numbers"}, [(cell,), (0,)])
            self.assertTrue(read_table(table_text(table)) == table)
            self.assertIs(type(read_table(table_text(table)).rows[0][0]), int)

    def test_words(self):
        for word in ["a", "z", "abcdefgh", "row", "columns", "numbers", "words", "up", "zzzzzzzz"]:
            table = Table({"row": "words", "columns": "words"}, [(word, word), ("a", word)])
            self.assertTrue(read_table(table_text(table)) == table)

    def test_read(self):
        found = read_table(TEXT)
        self.assertIs(type(found), Table)
        self.assertTrue(found == Table(BOTH, ROWS))
        self.assertEqual([list(found.columns.items()), found.rows], [list(BOTH.items()), ROWS])

    def test_what_was_written_is_read(self):
        for seed in range(200):
            dice = Dice(seed)
            columns = {dice.word("abrow", 8): dice.choice(["numbers", "words"]) for _ in range(3)}
            table = Table(columns, dice.rows(columns, 2, 8))
            self.assertTrue(read_table(table_text(table)) == table)
            self.assertEqual(table_text(read_table(table_text(table))), table_text(table))

    def test_names_that_are_words_of_the_text(self):
        for name in ["columns", "row", "numbers", "words", "abcdefgh", "z"]:
            text = "columns " + name + " numbers\nrow 1\nrow 2\n"
            self.assertEqual(read_table(text).columns, {name: "numbers"})

    def test_2_and_8_rows_1_and_3_columns(self):
        for many in (2, 8):
            self.assertEqual(len(read_table(HEAD + "row 1 a\n" * many).rows), many)
        self.assertEqual(len(read_table("columns a words b words c numbers\nrow x y 1\nrow x y 2\n").columns), 3)


class KeyTextTest(unittest.TestCase):
    def forms(self):
        found = []
        for name in ["a", "year", "abcdefgh", "size", "rest", "ending", "up", "down", "row"]:
            found += [(Part(Plain(name)), name + " up"), (Part(Size(name)), "size " + name + " up"),
                      (Part(Ending(name)), "ending " + name + " up")]
            found += [(Part(Rest(name, divisor)), "rest " + name + " " + str(divisor) + " up")
                      for divisor in range(2, 10)]
        return found + [(-part, text[:-2] + "down") for part, text in found]

    def test_each_form_of_a_part(self):
        for part, text in self.forms():
            self.assertEqual(key_text(Key(part)), text)
            self.assertIs(type(read_key(text)), Key)
            self.assertTrue(read_key(text) == Key(part), text)

    def test_forms_of_the_document(self):
        for text in ["year up", "size title down", "rest year 3 up", "ending title up"]:
            self.assertEqual(key_text(read_key(text)), text)

    def test_the_key_without_parts(self):
        self.assertEqual(key_text(Key()), "")
        self.assertTrue(read_key("") == Key())

    def test_0_to_6_parts(self):
        forms = self.forms()
        for many in range(7):
            for start in range(0, len(forms) - 6, 5):
                key = Key(*[part for part, _ in forms[start:start + many]])
                text = ", ".join([text for _, text in forms[start:start + many]])
                self.assertEqual(key_text(key), text)
                self.assertTrue(read_key(text) == key)

    def test_names_like_the_words_of_the_forms(self):
        self.assertTrue(read_key("size up") == Key(Part.up("size")))
        self.assertTrue(read_key("size size up") == Key(Part(Size("size"))))
        self.assertTrue(read_key("ending ending down") == Key(Part(Ending("ending"), down=True)))
        self.assertTrue(read_key("rest rest 3 up") == Key(Part(Rest("rest", 3))))
        self.assertTrue(read_key("up up, down down") == Key(Part.up("up"), Part.downward("down")))


class RefusedTableTest(RefusalCase):
    def line(self, text):
        found = self.refused(BadText, read_table, text).line
        self.assertIs(type(found), int)
        return found

    def test_no_string(self):
        for text in [0, 1, [], [TEXT], (TEXT,), {}, {TEXT: 1}, Table(BOTH, ROWS), TEXT.encode()] + strange_values():
            self.assertEqual(self.line(text), 0)

    def wrong_rows(self):
        cells = ["-0", "03", "00", "-03", "100", "-100", "1000", "+3", "--3", "-", "3-", "3.0", "3a", "a3", "0x1", "1_0",
                 "Oak", "OAK", "oaK", "abcdefghi", "a_b", "a-b", "-a", "", "\t", "\r", "a\r", "3\r", "\u00e4",
                 "\u0663", "\u00b2", "\uff13", "a,", "'a'", "3\u00a0", "\x0b", "\u2028", "1\x85", "\x00"]
        found = ["row " + cell for cell in cells] + ["row 3 " + cell for cell in cells]
        found += ["row " + cell + " 3" for cell in cells]
        return found + ["", " ", "row", "row ", "row  ", " row 3", "row  3", "row 3  oak", "row 3 oak ", "row 3 ",
                        "Row 3", "ROW 3", "rows 3", "ro 3", "3 oak", "oak", "row\t3", "row,3", "row-3", "row3",
                        "\trow 3", "row 3\t", "column 3", "# row 3"]

    def test_lines_that_are_no_rows(self):
        for line in self.wrong_rows():
            self.assertEqual(self.line(HEAD + line + "\n"), 1, line)
            self.assertEqual(self.line(TEXT + line + "\n"), 3, line)
            self.assertEqual(self.line(TEXT + line + "\nrow 3 oak\n"), 3, line)

    def test_columns_lines_that_are_not_the_first_one(self):
        for line in ["columns year numbers", "columns year numbers title words", "columns a words"]:
            self.assertEqual(self.line(TEXT + line + "\n"), 3)
            self.assertEqual(self.line(HEAD + line + "\nrow 3 oak\n"), 1)
            self.assertEqual(self.line("row 3\n" + line + "\n"), 0)

    def wrong_columns(self):
        return ["", " ", "columns", "columns ", "columns year", "columns year ", "columns numbers", "columns year Numbers",
                "columns year number", "columns year numbers ", "columns  year numbers", "columns year  numbers",
                " columns year numbers", "Columns year numbers", "column year numbers", "columns Year numbers",
                "columns abcdefghi numbers", "columns year numbers title", "columns year numbers title word",
                "columns year numbers  title words", "columns year numbers words", "columns year title numbers words",
                "columns numbers year", "columns y3 numbers", "columns 3 numbers", "columns -3 numbers",
                "columns year numbers\r", "columns year\tnumbers", "columns y\u00e4r numbers", "columns year words 3 words",
                "columnsyear numbers", "columns year: numbers", "columns year NUMBERS", "columns year texts", "year numbers"]

    def test_first_lines_that_are_no_columns(self):
        for line in self.wrong_columns():
            self.assertEqual(self.line(line + "\n"), 0, line)
            self.assertEqual(self.line(line + "\nrow 3\nrow 4\n"), 0, line)
            self.assertEqual(self.line(line + "\nrow 03\n"), 0, line)
            self.assertEqual(self.line(line + "\nrow 3\nrow 4"), 0, line)

    def test_the_first_line_must_be_the_columns(self):
        self.assertEqual(self.line("row 3\n"), 0)
        self.assertEqual(self.line("row 3\nrow 4\nbad\n"), 0)
        self.assertEqual(self.line("\n" + TEXT), 0)

    def test_text_without_a_line(self):
        for text in ["", "a", HEAD[:-1], "row 3", " ", "columns", "\r", "03"]:
            self.assertEqual(self.line(text), 0)

    def test_characters_behind_the_last_line_feed(self):
        for tail in ["r", " ", "row 3 oak", "row 03", "columns", "\r", HEAD[:-1], "\x00"]:
            self.assertEqual(self.line(HEAD + tail), 1)
            self.assertEqual(self.line(TEXT + tail), 3)
            self.assertEqual(self.line(HEAD + "row 3\n" * 20 + tail), 21)

    def test_lines_come_before_what_follows_them(self):
        self.assertEqual(self.line(HEAD + "row 03\nrow 4 oak"), 1)
        self.assertEqual(self.line("bad\nrow 4"), 0)

    def test_what_follows_comes_before_the_table(self):
        self.assertEqual(self.line("columns a words a words\nrow x y\nx"), 2)
        self.assertEqual(self.line("columns a words\nrow 3\nrow 4 5\nx"), 3)
        self.assertEqual(self.line("columns a words\nx"), 1)

    def test_the_smallest_line_is_told(self):
        for one, other in itertools.product(self.wrong_rows()[::7], repeat=2):
            self.assertEqual(self.line(HEAD + "row 1 a\n" + one + "\n" + other + "\n"), 2)
        self.assertEqual(self.line("columns a words a words\nrow 1\nrow 100\n"), 2)
        self.assertEqual(self.line(HEAD + "row 3\n" * 50 + "row -0\n" * 50), 51)

    def test_accepted_lines_that_form_no_table(self):
        for text in ["columns a words a words\nrow x y\nrow x z\n", "columns a words a words\nrow x\nrow y\n",
                     "columns a words b numbers a numbers\nrow x 1 2\nrow y 1 2\n",
                     "columns a words a numbers\nrow 1\nrow 2\n", "columns a words a words a words a words\nrow x\nrow y\n",
                     HEAD + "row 3\nrow 4 oak\n", HEAD + "row 3 oak\nrow 4 oak elm\n", HEAD + "row oak 3\nrow elm 4\n",
                     HEAD + "row 3 4\nrow 3 oak\n", HEAD + "row 3 oak\nrow oak oak\n", HEAD, HEAD + "row 3 oak\n",
                     HEAD + "row 3 oak\n" * 9, HEAD + "row 3 oak\n" * 1000,
                     "columns a words b words c words d words\nrow x x x x\nrow x x x x\n",
                     "columns a words b words c words d words\nrow x x x\nrow x x x\n"]:
            self.assertEqual(self.line(text), 0, text)

    def test_many_columns_and_cells_are_accepted(self):
        many = "columns" + " a words" * 30 + "\n"
        self.assertEqual(self.line(many), 0)
        self.assertEqual(self.line(many + "row" + " 3 a" * 30 + "\nbad\n"), 2)

    def test_only_a_line_feed_ends_a_line(self):
        for ending in ["\r", "\r\n", "\x0b", "\x0c", "\x1c", "\x85", "\u2028"]:
            self.assertEqual(self.line(TEXT.replace("\n", ending)), 0)
            self.assertEqual(self.line(HEAD + "row 3 oak" + ending + "row 4 elm\n"), 1)

    def test_writing(self):
        for table in [TEXT, BOTH, ROWS, Key(), 1, [], (), {}, Table] + strange_values():
            self.assertIsNone(self.refused(BadTable, table_text, table).part)


class RefusedKeyTest(RefusalCase):
    def check(self, text):
        found = self.refused(BadText, read_key, text).line
        self.assertEqual([found, type(found)], [0, int], text)

    def test_no_string(self):
        for text in [0, 1, [], ["year up"], ("year up",), {}, Key(), b"year up"] + strange_values():
            self.check(text)

    def wrong_parts(self):
        found = ["year", "up", "year  up", " year up", "year up ", "year Up", "year UP", "Year up", "year upward",
                 "year up down", "abcdefghi up", "y3 up", "3 up", " up", "size  title up", "Size title up",
                 "size Title up", "size title", "size abcdefghi up", "sizes title up", "size title 3 up", "size 3 up",
                 "ending title", "Ending title up", "ending  title up", "ending Title up", "ending title 3 up",
                 "rest year up", "rest year 3", "Rest year 3 up", "rest  year 3 up", "rest year  3 up", "rest Year 3 up",
                 "rest year 3 4 up", "rest 3 year up", "plain year up", "year\tup", "year up\n", "\nyear up", "year up\r",
                 "y\u00e4r up", "size title up down", "rest year 3 ups", "year,up", "year up,", "row year up"]
        divisors = ["1", "0", "10", "99", "100", "-2", "-3", "03", "+3", "", "three", "3.0", "\u0663", "\u00b2", "-0"]
        return found + ["rest year " + divisor + " up" for divisor in divisors]

    def test_wrong_parts(self):
        for text in self.wrong_parts():
            self.check(text)
            self.check("year up, " + text)
            self.check(text + ", year up")
            self.check("year up, " * 5 + text)

    def test_wrong_separators(self):
        for text in ["year up,title down", "year up , title down", "year up,  title down", "year up title down",
                     "year up; title down", ", year up", "year up, ", "year up,", ", ", ",", "year up, , year up",
                     "year up,\ntitle down", "year up\ntitle down", " ", "\n", "year up,, title down"]:
            self.check(text)

    def test_7_parts(self):
        self.assertEqual(len(read_key(", ".join(["year up"] * 6))), 6)
        self.check(", ".join(["year up"] * 7))
        self.check(", ".join(["rest year 3 down"] * 100))

    def test_writing(self):
        for key in [Part.up("year"), Plain("year"), "year up", "", 1, [], [Part.up("year")], (), {}, Key,
                    Table(BOTH, ROWS)] + strange_values():
            self.refused(BadKey, key_text, key)


if __name__ == "__main__":
    unittest.main()
