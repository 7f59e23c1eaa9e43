"""The interface of crateslip.errors."""

import unittest

from crateslip.errors import NoRow, NoTable, SlipError


class Bases(unittest.TestCase):
    def test_any_refusal_is_a_value_error(self):
        self.assertEqual(SlipError.__bases__, (ValueError,))

    def test_each_refusal_is_a_slip_error(self):
        self.assertEqual(NoTable.__bases__, (SlipError,))
        self.assertEqual(NoRow.__bases__, (SlipError,))

    def test_the_refusals_differ(self):
        self.assertFalse(issubclass(NoTable, NoRow))
        self.assertFalse(issubclass(NoRow, NoTable))

    def test_names(self):
        for error in (SlipError, NoTable, NoRow):
            self.assertEqual(error.__module__, "crateslip.errors")
        self.assertEqual(
            [error.__name__ for error in (SlipError, NoTable, NoRow)],
            ["SlipError", "NoTable", "NoRow"],
        )

    def test_each_can_be_raised_with_words(self):
        for error in (SlipError, NoTable, NoRow):
            for taken in (error, SlipError, ValueError):
                with self.assertRaises(taken):
                    raise error("words")


if __name__ == "__main__":
    unittest.main()
