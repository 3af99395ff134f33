"""The errors of the interface."""

import unittest

from sortreason import errors

NAMES = ["BadTable", "BadMeasure", "BadKey", "BadRow", "BadPairs", "BadNumber", "BadTree", "BadMove",
         "NothingMoved", "BadText"]


class ErrorsTest(unittest.TestCase):
    def test_base_is_a_value_error(self):
        self.assertEqual(errors.SortError.__bases__, (ValueError,))

    def test_all_are_direct_subclasses(self):
        for name in NAMES:
            self.assertEqual(getattr(errors, name).__bases__, (errors.SortError,), name)

    def test_there_are_no_others(self):
        found = [name for name, value in vars(errors).items() if isinstance(value, type)]
        self.assertEqual(sorted(found), sorted(NAMES + ["SortError"]))

    def test_all_are_defined_in_the_file(self):
        for name in NAMES + ["SortError"]:
            self.assertEqual(getattr(errors, name).__module__, "sortreason.errors")

    def test_none_is_another_one(self):
        for name in NAMES:
            raised = getattr(errors, name)("why")
            for other in NAMES:
                self.assertEqual(isinstance(raised, getattr(errors, other)), name == other)

    def test_each_can_be_raised_and_caught_as_its_bases(self):
        for name in NAMES:
            for base in (getattr(errors, name), errors.SortError, ValueError):
                with self.assertRaises(base):
                    raise getattr(errors, name)("why")

    def test_attributes_are_set_when_the_object_is_created(self):
        self.assertEqual(errors.BadTable("why", "COLUMNS").part, "COLUMNS")
        self.assertEqual(errors.BadTable("why", 0).part, 0)
        self.assertIsNone(errors.BadTable("why").part)
        self.assertEqual(errors.BadText("why", 3).line, 3)
        self.assertIn("part", vars(errors.BadTable()))
        self.assertIn("line", vars(errors.BadText()))

    def test_messages_are_kept(self):
        for name in NAMES:
            self.assertEqual(str(getattr(errors, name)("some words")), "some words")
        self.assertEqual(str(errors.BadTable("some words", 3)), "some words")
        self.assertEqual(str(errors.BadText("some words", 3)), "some words")


if __name__ == "__main__":
    unittest.main()
