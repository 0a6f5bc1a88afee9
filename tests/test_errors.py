"""The refusals, as the interface lists them."""

import unittest

from longyears import errors

NAMES = ["NoLand", "NoYear", "NoDay", "NoPlace", "NoWeek", "NoName", "NoSeen", "NoNumber", "NothingLeft"]


class Errors(unittest.TestCase):
    def test_any_refusal_is_a_value_error(self):
        self.assertEqual(errors.YearError.__bases__, (ValueError,))

    def test_each_is_made_of_a_text_and_stands_under_year_error(self):
        for name in NAMES:
            made = getattr(errors, name)("a text")
            self.assertIsInstance(made, errors.YearError)
            self.assertEqual(str(made), "a text")

    def test_none_stands_under_another(self):
        classes = [getattr(errors, name) for name in NAMES]
        for one in classes:
            self.assertEqual([other for other in classes if issubclass(one, other)], [one])

    def test_all_are_defined_in_their_file(self):
        for name in ["YearError", *NAMES]:
            self.assertEqual(getattr(errors, name).__module__, "longyears.errors")


if __name__ == "__main__":
    unittest.main()
