"""Point 8: which slips are tidy, and what a slip is tidied to."""

import inspect
import unittest

from crateslip.errors import NoRow, NoTable, SlipError
from crateslip.tidying import is_tidy, tidied

LOOSE = (
    (" a b ;'c' ; /", "a b;c;/"),
    (" /", "/"),
    ("''/", "/"),
    (" '' /", "/"),
    ("a /", "a/"),
    (" a/", "a/"),
    ("  a  b   /", "a  b/"),
    ("'a'/", "a/"),
    ("'a b'/", "a b/"),
    (" 'a;b' /", "'a;b'/"),
    ("'a;b' /", "'a;b'/"),
    (" ' a'/", "' a'/"),
    ("'a' ; 'b ' ;''/", "a;'b ';/"),
    ("a;b / c;d/", "a;b/c;d/"),
    ("a/ /", "a//"),
    ("''''/'x'/", "''''/x/"),
    (" '''' /", "''''/"),
    ("'it''s' ;'its'/", "'it''s';its/"),
    ("a/b/'c'/", "a/b/c/"),
)

TIDY = (
    "",
    "/",
    "//",
    ";/",
    ";;//",
    "a/",
    "a b/",
    "a  b;c/",
    "salt;2 sacks/'nuts; figs';/",
    "' '/",
    "''''/",
    "''''''/",
    "'a;b'/",
    "'/'/",
    "';';'/'/' '/",
    "'it''s'/",
    "' a'/",
    "'a ';b/",
    "a;'''';/",
)

REFUSED = (
    " ",
    "'",
    "''",
    "a",
    ";",
    "a;",
    "a/ ",
    "a/b",
    "'a'",
    "'a''",
    "'a/",
    "a'/",
    "a 'b'/",
    "a/b'c/",
    "'a'b/",
    "'a' b/",
    "'a' 'b'/",
    "'a''/",
    "salt;2 sacks/'nuts; figs';",
)


class Interface(unittest.TestCase):
    def test_arguments(self):
        self.assertEqual(list(inspect.signature(tidied).parameters), ["slip"])
        self.assertEqual(list(inspect.signature(is_tidy).parameters), ["slip"])
        self.assertEqual(tidied(slip=" a/"), "a/")
        self.assertIs(is_tidy(slip="a/"), True)


class Tidied(unittest.TestCase):
    def tidied_to(self, slip, text):
        self.assertEqual(tidied(slip), text, repr(slip))
        self.assertIs(type(tidied(slip)), str)

    def test_loose_slips(self):
        for slip, text in LOOSE:
            self.tidied_to(slip, text)

    def test_tidy_slips_stay_as_they_are(self):
        for slip in TIDY:
            self.tidied_to(slip, slip)

    def test_empty_text(self):
        self.tidied_to("", "")

    def test_a_tidied_slip_is_tidy(self):
        for slip, text in LOOSE:
            self.assertIs(is_tidy(tidied(slip)), True, repr(slip))
            self.tidied_to(text, text)

    def test_refused(self):
        for text in REFUSED:
            for error in (NoTable, SlipError, ValueError):
                with self.assertRaises(error):
                    tidied(text)
            with self.assertRaises(SlipError) as taken:
                tidied(text)
            self.assertIs(type(taken.exception), NoTable)
            self.assertNotIsInstance(taken.exception, NoRow)

    def test_long_slips(self):
        self.tidied_to(" 'ab' ;" * 2142 + "/", "ab;" * 2142 + "/")
        self.tidied_to("ab/" * 5000, "ab/" * 5000)
        self.tidied_to("'" * 14998 + " /", "'" * 14998 + "/")
        self.tidied_to(" " * 14999 + "/", "/")


class IsTidy(unittest.TestCase):
    def test_tidy(self):
        for slip in TIDY:
            self.assertIs(is_tidy(slip), True, repr(slip))

    def test_loose(self):
        for slip, text in LOOSE:
            self.assertIs(is_tidy(slip), False, repr(slip))

    def test_refused(self):
        for text in REFUSED:
            self.assertIs(is_tidy(text), False, repr(text))

    def test_one_blank_or_needless_quotes_at_each_place(self):
        for slip in ("a /b/", " a/b/", "a/b /", "a/ b/", "'a'/b/", "a/'b'/", "a;b/c; d/", "a;b/'';d/"):
            self.assertIs(is_tidy(slip), False, repr(slip))

    def test_long_texts(self):
        self.assertIs(is_tidy("ab/" * 5000), True)
        self.assertIs(is_tidy("ab/" * 4999 + "a /"), False)
        self.assertIs(is_tidy("ab/" * 4999 + "ab;"), False)


if __name__ == "__main__":
    unittest.main()
