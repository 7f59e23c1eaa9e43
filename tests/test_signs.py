"""Point 2: which fields are plain."""

import inspect
import itertools
import re
import unittest

from crateslip.signs import is_plain

ALL_SIGNS = [chr(code) for code in range(ord(" "), ord("~") + 1) if chr(code) != "%"]
MARKS = [";", "/", "'"]


class IsPlain(unittest.TestCase):
    def plain(self, field):
        self.assertIs(is_plain(field), True, repr(field))

    def not_plain(self, field):
        self.assertIs(is_plain(field), False, repr(field))

    def test_interface(self):
        self.assertEqual(list(inspect.signature(is_plain).parameters), ["field"])
        self.assertIs(is_plain(field="salt"), True)

    def test_empty_field(self):
        self.plain("")

    def test_ordinary_fields(self):
        for field in ("salt", "a", "7", "Z9", "SALT", "12", "None"):
            self.plain(field)

    def test_blanks_within(self):
        for field in ("2 sacks", "a b c", "a  b", "a   b c"):
            self.plain(field)

    def test_marks_at_each_place(self):
        for mark in MARKS:
            for field in (mark, mark + "ab", "a" + mark + "b", "ab" + mark, mark + mark):
                self.not_plain(field)

    def test_marks_in_a_long_field(self):
        for mark in MARKS:
            for place in range(31):
                self.not_plain("a" * place + mark + "a" * (30 - place))

    def test_several_marks(self):
        for marks in itertools.permutations(MARKS):
            self.not_plain("".join(marks))
            self.not_plain("a".join(marks))

    def test_blanks_at_the_ends(self):
        for field in (" ", "  ", "   ", " a", "a ", " a ", "  a", "a  ", " a b", "a b "):
            self.not_plain(field)

    def test_blank_and_mark(self):
        for mark in MARKS:
            for field in (" " + mark, mark + " ", "a " + mark + " b", " " + mark + " "):
                self.not_plain(field)

    def test_every_other_sign(self):
        for sign in ALL_SIGNS:
            if sign not in MARKS and sign != " ":
                for field in (sign, sign + "a", "a" + sign, "a" + sign + "b", sign * 3, sign + " " + sign):
                    self.plain(field)

    def test_signs_that_look_like_marks(self):
        for field in ('"', '"a"', "`", "a`b", ":", ",", "\\", "a\\b", "|", "-", "~", "!", "&", ".", "#"):
            self.plain(field)

    def test_all_short_fields(self):
        form = re.compile(r"(?:[^;/' ](?:[^;/']*[^;/' ])?)?")
        for length in range(6):
            for signs in itertools.product("a;/' ", repeat=length):
                field = "".join(signs)
                self.assertIs(is_plain(field), form.fullmatch(field) is not None, repr(field))

    def test_long_fields(self):
        self.plain("a" * 900)
        self.plain("a" + " " * 898 + "a")
        self.not_plain(" " * 900)
        self.not_plain("a" * 899 + " ")
        self.plain("a" * 2000)


if __name__ == "__main__":
    unittest.main()
