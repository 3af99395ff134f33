"""Measures, parts and keys: points [1], [3] and [4], and the section on sortreason/keys.py."""

import unittest

from sortreason import keys
from sortreason.errors import BadKey, BadMeasure
from sortreason.keys import Ending, Key, Measure, Part, Plain, Rest, Size
from support import Equal, Hostile, RefusalCase, strange_values

ALPHABET = "abcdefghijklmnopqrstuvwxyz"
WRONG_NAMES = ["", "abcdefghi", "a" * 1000, "A", "Year", "a b", " a", "a ", "a\n", "a1", "1", "a_b", "a-b", "a.b",
               "\u00e4", "stra\u00dfe", "\u0430", "\u00aa", "a\u0301", "`", "{", 0, 1, -1, 10 ** 30, ["a"], ("a",),
               {"a": 1}, [], (), {}]


def one_of_each(name="year"):
    return [Plain(name), Size(name), Rest(name, 2), Ending(name)]


class InterfaceTest(unittest.TestCase):
    def test_example_of_the_document(self):
        key = Key(Part.up('year'), Part(Size('title'), down=True)) + Key(Part(Rest('year', 2)))
        found = [len(key), Part(Size('title')) in key, key[1] == -Part(Size('title')), Size('title').of('abc'),
                 Rest('year', 3).of(-1)]
        self.assertEqual(repr(found), "[3, False, True, 3, 2]")

    def test_classes_are_defined_in_the_file(self):
        for name in ["Measure", "Plain", "Size", "Rest", "Ending", "Part", "Key"]:
            self.assertEqual(getattr(keys, name).__module__, "sortreason.keys")

    def test_measures_have_the_base_class(self):
        for measure in one_of_each():
            self.assertIsInstance(measure, Measure)
            self.assertEqual(type(measure).__bases__, (Measure,))

    def test_methods_are_defined_in_the_classes_themselves(self):
        listed = {Measure: ["name", "of", "__eq__"], Plain: ["of"], Size: ["of"], Rest: ["of"], Ending: ["of"],
                  Part: ["__init__", "measure", "down", "up", "downward", "__eq__", "__neg__"],
                  Key: ["__init__", "parts", "__eq__", "__add__", "__neg__", "__len__", "__contains__", "__getitem__"]}
        for owner, names in listed.items():
            for name in names:
                self.assertIn(name, vars(owner), owner)

    def test_properties_cannot_be_assigned(self):
        cases = [(Plain("a"), "name"), (Part.up("a"), "measure"), (Part.up("a"), "down"), (Key(), "parts")]
        for owner, name in cases:
            with self.assertRaises(AttributeError):
                setattr(owner, name, None)

    def test_arguments_can_be_named(self):
        self.assertEqual(Plain(name="a"), Plain("a"))
        self.assertEqual(Size(name="a"), Size("a"))
        self.assertEqual(Rest(name="a", divisor=4), Rest("a", 4))
        self.assertEqual(Ending(name="a"), Ending("a"))
        self.assertEqual(Part(measure=Plain("a"), down=True), Part.downward("a"))
        self.assertEqual(Part.up(name="a"), Part.up("a"))
        self.assertEqual(Part.downward(name="a"), Part.downward("a"))
        self.assertEqual(Plain("a").of(cell=3), 3)


class MeasureTest(RefusalCase):
    def test_name(self):
        for name in ["a", "z", "az", "year", "abcdefgh", "zzzzzzzz"]:
            for measure in one_of_each(name):
                self.assertEqual(measure.name, name)

    def test_every_letter_is_one(self):
        for letter in ALPHABET:
            self.assertEqual(Plain(letter).name, letter)

    def test_plain(self):
        for cell in [-99, -1, 0, 7, 99, "a", "oak", "abcdefgh"]:
            self.assertEqual(Plain("year").of(cell), cell)

    def test_size_of_numbers(self):
        found = [Size("year").of(cell) for cell in [-99, -10, -1, 0, 1, 10, 99]]
        self.assertEqual(found, [99, 10, 1, 0, 1, 10, 99])

    def test_size_of_words(self):
        found = [Size("title").of(cell) for cell in ["a", "zz", "oak", "abcdefgh"]]
        self.assertEqual(found, [1, 2, 3, 8])

    def test_rest(self):
        self.assertEqual([Rest("year", 2).of(cell) for cell in range(-4, 5)], [0, 1, 0, 1, 0, 1, 0, 1, 0])
        self.assertEqual([Rest("year", 3).of(cell) for cell in range(-4, 5)], [2, 0, 1, 2, 0, 1, 2, 0, 1])
        self.assertEqual([Rest("year", 9).of(cell) for cell in [-99, -10, -9, -1, 0, 8, 9, 99]],
                         [0, 8, 0, 8, 0, 8, 0, 0])

    def test_rest_is_from_0_to_the_divisor_less_1(self):
        for divisor in range(2, 10):
            found = [Rest("year", divisor).of(cell) for cell in range(-99, 100)]
            self.assertEqual(sorted(set(found)), list(range(divisor)))
            self.assertTrue(all((cell - rest) % divisor == 0 for cell, rest in zip(range(-99, 100), found)))

    def test_ending(self):
        self.assertEqual([Ending("title").of(cell) for cell in ["a", "oak", "elm", "abcdefgh"]], ["a", "k", "m", "h"])

    def test_measures_are_integers_and_words(self):
        for measure in [Size("year"), Rest("year", 2)]:
            self.assertIs(type(measure.of(-1)), int)
        self.assertIs(type(Ending("title").of("oak")), str)

    def test_equal_measures(self):
        for one, other in zip(one_of_each(), one_of_each()):
            self.assertTrue(one == other)
            self.assertFalse(one != other)

    def test_measures_of_other_classes_are_unequal(self):
        measures = one_of_each()
        for at, one in enumerate(measures):
            for other in measures[:at] + measures[at + 1:]:
                self.assertFalse(one == other)
                self.assertTrue(one != other)

    def test_measures_with_other_arguments_are_unequal(self):
        for one, other in zip(one_of_each("year"), one_of_each("years")):
            self.assertFalse(one == other)
        self.assertFalse(Rest("year", 2) == Rest("year", 3))
        self.assertFalse(Rest("year", 3) == Rest("month", 3))
        self.assertTrue(Rest("year", 9) == Rest("year", 9))

    def test_measures_are_not_their_names(self):
        for measure in one_of_each():
            self.assertFalse(measure == "year")
            self.assertFalse(measure == None)  # noqa: E711

    def test_wrong_names(self):
        for name in WRONG_NAMES + strange_values():
            self.refused(BadMeasure, Plain, name)
            self.refused(BadMeasure, Size, name)
            self.refused(BadMeasure, Rest, name, 2)
            self.refused(BadMeasure, Ending, name)
            self.refused(BadMeasure, Part.up, name)
            self.refused(BadMeasure, Part.downward, name)

    def test_every_other_character_is_wrong(self):
        for number in range(1, 1000):
            if chr(number) not in ALPHABET:
                self.refused(BadMeasure, Plain, "a" + chr(number))

    def test_divisors_at_the_bounds(self):
        for divisor in range(2, 10):
            self.assertEqual(Rest("year", divisor).of(divisor + 1), 1)

    def test_wrong_divisors(self):
        for divisor in [1, 10, 0, -1, -2, -9, 10 ** 30, "2", "", [2], (2,), {2: 2}] + strange_values():
            self.refused(BadMeasure, Rest, "year", divisor)

    def test_both_arguments_wrong(self):
        self.refused(BadMeasure, Rest, "", 1)


class PartTest(RefusalCase):
    def test_properties(self):
        for measure in one_of_each():
            self.assertEqual(Part(measure).measure, measure)
            self.assertIs(Part(measure).down, False)
            self.assertIs(Part(measure, down=False).down, False)
            self.assertIs(Part(measure, down=True).down, True)
            self.assertEqual(Part(measure, down=True).measure, measure)

    def test_direction_is_passed_by_keyword_alone(self):
        with self.assertRaises(TypeError):
            Part(Plain("year"), True)

    def test_parts_of_the_column_itself(self):
        self.assertTrue(Part.up("year") == Part(Plain("year")))
        self.assertTrue(Part.downward("year") == Part(Plain("year"), down=True))
        self.assertIs(Part.up("year").down, False)
        self.assertIs(Part.downward("year").down, True)
        self.assertEqual(Part.downward("abcdefgh").measure.name, "abcdefgh")

    def test_equality(self):
        for one, other in zip(one_of_each(), one_of_each()):
            self.assertTrue(Part(one) == Part(other))
            self.assertTrue(Part(one, down=True) == Part(other, down=True))
            self.assertFalse(Part(one) == Part(other, down=True))
            self.assertTrue(Part(one) != Part(other, down=True))
            self.assertFalse(Part(one) != Part(other))
        self.assertFalse(Part(Plain("year")) == Part(Size("year")))
        self.assertFalse(Part(Plain("year")) == Part(Plain("title")))
        self.assertFalse(Part(Rest("year", 2)) == Part(Rest("year", 3)))

    def test_a_part_is_not_its_measure(self):
        self.assertFalse(Part(Plain("year")) == Plain("year"))
        self.assertFalse(Plain("year") == Part(Plain("year")))
        self.assertFalse(Part(Plain("year")) == Key(Part(Plain("year"))))

    def test_negation(self):
        for measure in one_of_each():
            part = Part(measure)
            self.assertTrue(-part == Part(measure, down=True))
            self.assertTrue(-Part(measure, down=True) == part)
            self.assertTrue(-(-part) == part)
            self.assertIs(part.down, False)

    def test_wrong_measures(self):
        for measure in ["year", 1, [], (), {}, Plain, Measure, Part.up("year"), Key()] + strange_values():
            self.refused(BadMeasure, Part, measure)
            self.refused(BadMeasure, Part, measure, down=True)

    def test_wrong_directions(self):
        strange = [value for value in strange_values() if not isinstance(value, bool)]
        for down in [0, 1, "", "down", "up", [], [True], (True,), {}] + strange:
            self.refused(BadMeasure, Part, Plain("year"), down=down)

    def test_both_arguments_wrong(self):
        self.refused(BadMeasure, Part, "year", down=1)


class KeyTest(RefusalCase):
    def parts(self):
        return [Part.up("year"), Part(Size("title"), down=True), Part(Rest("year", 2)), Part(Ending("title")),
                Part.downward("year"), Part(Rest("year", 9), down=True)]

    def test_length_from_0_to_6(self):
        for many in range(7):
            key = Key(*self.parts()[:many])
            self.assertEqual(len(key), many)
            self.assertEqual(key.parts, self.parts()[:many])

    def test_7_parts_are_too_many(self):
        self.refused(BadKey, Key, *[Part.up("year")] * 7)
        self.refused(BadKey, Key, *[Part.up("year")] * 100)

    def test_parts_may_be_repeated(self):
        self.assertEqual(len(Key(*[Part.up("year")] * 6)), 6)

    def test_wrong_parts(self):
        for part in ["year", 1, [], [Part.up("year")], (), {}, Plain("year"), Part, Key()] + strange_values():
            self.refused(BadKey, Key, part)
            self.refused(BadKey, Key, Part.up("year"), part)
            self.refused(BadKey, Key, part, Part.up("year"))
            self.refused(BadKey, Key, *self.parts()[:5], part)

    def test_wrong_and_too_many_parts(self):
        self.refused(BadKey, Key, *[None] * 7)

    def test_equality(self):
        self.assertTrue(Key() == Key())
        self.assertTrue(Key(*self.parts()) == Key(*self.parts()))
        self.assertFalse(Key(*self.parts()) != Key(*self.parts()))
        self.assertFalse(Key(*self.parts()) == Key(*reversed(self.parts())))
        self.assertFalse(Key(*self.parts()) == Key(*self.parts()[:5]))
        self.assertFalse(Key(Part.up("year")) == Key(Part.downward("year")))
        self.assertFalse(Key(Part.up("year")) == Key(Part.up("title")))
        self.assertFalse(Key(Part.up("year")) == Key(Part.up("year"), Part.up("year")))
        self.assertTrue(Key(Part.up("year")) != Key())

    def test_a_key_is_not_its_parts(self):
        for other in [[], (), False, None, 0]:
            self.assertFalse(Key() == other)
        self.assertFalse(Key(Part.up("year")) == Part.up("year"))
        self.assertFalse(Key(Part.up("year")) == [Part.up("year")])

    def test_sums(self):
        parts = self.parts()
        for many in range(7):
            for left in range(many + 1):
                total = Key(*parts[:left]) + Key(*parts[left:many])
                self.assertTrue(total == Key(*parts[:many]))

    def test_sums_leave_both_keys_as_they_are(self):
        one, other = Key(Part.up("year")), Key(Part.up("title"))
        total = one + other
        self.assertEqual([len(one), len(other), len(total)], [1, 1, 2])
        self.assertEqual(total.parts, [Part.up("year"), Part.up("title")])

    def test_sums_of_more_than_6_parts(self):
        parts = self.parts()
        for left in range(1, 7):
            one, other = Key(*parts[:left]), Key(*parts[:7 - left])
            self.refused(BadKey, lambda: one + other)
            self.assertEqual(one.parts, parts[:left])
            self.assertEqual(other.parts, parts[:7 - left])
        self.refused(BadKey, lambda: Key(*parts) + Key(*parts))

    def test_sums_with_other_values(self):
        key = Key(Part.up("year"))
        for other in [Part.up("year"), Plain("year"), "year", 1, [], [Part.up("year")], (), {}, Key] + strange_values():
            self.refused(BadKey, lambda: key + other)
            self.refused(BadKey, lambda: Key(*self.parts()) + other)
        self.assertEqual(key.parts, [Part.up("year")])

    def test_negation(self):
        key = Key(*self.parts())
        turned = -key
        self.assertEqual([part.down for part in turned.parts], [not part.down for part in key.parts])
        self.assertEqual([part.measure for part in turned.parts], [part.measure for part in key.parts])
        self.assertTrue(-turned == key)
        self.assertTrue(-Key() == Key())
        self.assertTrue(key == Key(*self.parts()))

    def test_membership(self):
        key = Key(Part.up("year"), Part(Rest("year", 3), down=True))
        self.assertIs(Part.up("year") in key, True)
        self.assertIs(Part(Rest("year", 3), down=True) in key, True)
        self.assertIs(Part(Rest("year", 3)) in key, False)
        self.assertIs(Part(Rest("year", 2), down=True) in key, False)
        self.assertIs(Part.downward("year") in key, False)
        self.assertIs(Part.up("title") in key, False)
        self.assertIs(Part(Size("year")) in key, False)
        self.assertIs(Part.up("year") in Key(), False)
        self.assertIs(Part.up("year") not in key, False)

    def test_items(self):
        parts = self.parts()
        for many in range(1, 7):
            key = Key(*parts[:many])
            self.assertEqual([key[at] for at in range(many)], parts[:many])

    def test_indices_beyond_the_bounds(self):
        for many in range(7):
            key = Key(*self.parts()[:many])
            for at in [-1, -2, -many, many, many + 1, 10 ** 30, -10 ** 30]:
                if not 0 <= at < many:
                    self.refused(BadKey, lambda: key[at])
        self.refused(BadKey, lambda: Key()[0])

    def test_wrong_indices(self):
        key = Key(*self.parts())
        for at in ["0", "", [0], (0,), (0, 1), {}, slice(0, 1), slice(None), Part.up("year")] + strange_values():
            self.refused(BadKey, lambda: key[at])

    def test_booleans_are_no_indices(self):
        key = Key(Part.up("year"), Part.up("title"))
        self.refused(BadKey, lambda: key[True])
        self.refused(BadKey, lambda: key[False])

    def test_a_key_is_not_iterated_over(self):
        for key in [Key(), Key(*self.parts())]:
            with self.assertRaises(TypeError):
                list(key)

    def test_truth(self):
        self.assertFalse(Key())
        self.assertIs(bool(Key()), False)
        for many in range(1, 7):
            self.assertIs(bool(Key(*self.parts()[:many])), True)

    def test_parts_are_a_new_list_each_time(self):
        key = Key(*self.parts())
        self.assertIs(type(key.parts), list)
        self.assertIsNot(key.parts, key.parts)
        key.parts.append(Part.up("title"))
        key.parts.clear()
        self.assertEqual(key.parts, self.parts())
        self.assertEqual(len(key), 6)

    def test_a_list_that_is_changed_afterwards(self):
        parts = self.parts()
        key = Key(*parts)
        parts.clear()
        self.assertEqual(key.parts, self.parts())


class RankTest(unittest.TestCase):
    """How a part ties two cells, puts them in order or turns them round: the ranks that tables compare."""

    def check(self, measure, cells):
        up, down = Part(measure), Part(measure, down=True)
        for one in cells:
            for other in cells:
                first, second = measure.of(one), measure.of(other)
                self.assertEqual(up.rank(one) < up.rank(other), first < second)
                self.assertEqual(up.rank(one) == up.rank(other), first == second)
                self.assertEqual(down.rank(one) < down.rank(other), first > second)
                self.assertEqual(down.rank(one) == down.rank(other), first == second)

    def test_numbers(self):
        for measure in [Plain("a"), Size("a"), Rest("a", 2), Rest("a", 7)]:
            self.check(measure, range(-99, 100, 3))

    def test_words(self):
        words = ["a", "aa", "aaaaaaaa", "aaaaaaab", "ab", "aba", "abz", "b", "ba", "m", "y", "yz", "z", "za", "zz",
                 "zzzzzzz", "zzzzzzzy", "zzzzzzzz"]
        for measure in [Plain("a"), Size("a"), Ending("a")]:
            self.check(measure, words)


class StrangeValuesTest(RefusalCase):
    def test_values_that_claim_or_fail(self):
        for value in (Equal(), Hostile()):
            self.refused(BadMeasure, Plain, value)
            self.refused(BadMeasure, Rest, "year", value)
            self.refused(BadMeasure, Part, Plain("year"), down=value)
            self.refused(BadKey, Key, value)


if __name__ == "__main__":
    unittest.main()
