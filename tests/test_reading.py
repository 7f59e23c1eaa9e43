"""Points 5, 6 and 7: which texts are slips, how they are read, and which fault any other text has."""

import inspect
import unittest

from crateslip.errors import NoRow, NoTable, SlipError
from crateslip.reading import fault, read
from crateslip.tidying import is_tidy, tidied

ALL_SIGNS = [chr(code) for code in range(ord(" "), ord("~") + 1) if chr(code) != "%"]

IN_PLAIN = "quotes in a plain field"
BEHIND = "a sign behind quotes"
QUOTES = "quotes not ended"
ROW = "row not ended"


class Slips(unittest.TestCase):
    def read_to(self, slip, table):
        answer = read(slip)
        self.assertEqual(answer, table, repr(slip))
        self.assertIs(type(answer), list)
        for row in answer:
            self.assertIs(type(row), list)
            for field in row:
                self.assertIs(type(field), str)
        self.assertIsNone(fault(slip), repr(slip))


class Interface(unittest.TestCase):
    def test_arguments(self):
        self.assertEqual(list(inspect.signature(read).parameters), ["slip"])
        self.assertEqual(list(inspect.signature(fault).parameters), ["slip"])
        self.assertEqual(read(slip="a/"), [["a"]])
        self.assertIsNone(fault(slip="a/"))


class Read(Slips):
    def test_examples_of_the_document(self):
        self.read_to(" a b ;'c' ; /", [["a b", "c", ""]])
        for slip in ("/", " /", "''/"):
            self.read_to(slip, [[""]])
        self.read_to("", [])
        self.read_to("salt;2 sacks/'nuts; figs';/", [["salt", "2 sacks"], ["nuts; figs", ""]])

    def test_plain_fields(self):
        self.read_to("a/", [["a"]])
        self.read_to("salt/", [["salt"]])
        self.read_to("a;b/", [["a", "b"]])
        self.read_to("a;b;c/", [["a", "b", "c"]])

    def test_blanks_within_a_plain_field_are_kept(self):
        self.read_to("a b/", [["a b"]])
        self.read_to("a  b/", [["a  b"]])
        self.read_to("a b   c;d e/", [["a b   c", "d e"]])

    def test_blanks_at_the_end_of_a_plain_field_are_not_kept(self):
        self.read_to("a /", [["a"]])
        self.read_to("a   /", [["a"]])
        self.read_to("a b /", [["a b"]])
        self.read_to("a  b   ;c  /", [["a  b", "c"]])

    def test_blanks_alone_are_an_empty_field(self):
        self.read_to("   /", [[""]])
        self.read_to(" ; /", [["", ""]])
        self.read_to("a;   /", [["a", ""]])
        self.read_to("   ;a/", [["", "a"]])
        self.read_to("a; ;b/", [["a", "", "b"]])
        self.read_to("a/ /", [["a"], [""]])
        self.read_to(" /  ; /", [[""], ["", ""]])

    def test_empty_fields(self):
        self.read_to(";/", [["", ""]])
        self.read_to(";;/", [["", "", ""]])
        self.read_to("a;/", [["a", ""]])
        self.read_to(";a/", [["", "a"]])
        self.read_to("'';''/", [["", ""]])

    def test_two_quotes_within_quotes_are_one(self):
        self.read_to("'''ab'/", [["'ab"]])
        self.read_to("'a''b'/", [["a'b"]])
        self.read_to("'ab'''/", [["ab'"]])
        self.read_to("''''/", [["'"]])
        self.read_to("''''''/", [["''"]])
        self.read_to("'a''''b'/", [["a''b"]])
        self.read_to("'''a''b'''/", [["'a'b'"]])
        self.read_to("'it''s';'it''s'/", [["it's", "it's"]])

    def test_marks_within_quotes_are_themselves(self):
        self.read_to("' '/", [[" "]])
        self.read_to("';'/", [[";"]])
        self.read_to("'/'/", [["/"]])
        self.read_to("'a b'/", [["a b"]])
        self.read_to("'a;b'/", [["a;b"]])
        self.read_to("'a/b'/", [["a/b"]])
        self.read_to("' ;/ ;/ '/", [[" ;/ ;/ "]])
        self.read_to("''' / ; '''/", [["' / ; '"]])
        self.read_to("''';'';/'/", [["';';/"]])

    def test_blanks_within_quotes_are_kept(self):
        for field in (" a", "a ", " a ", "   ", "  a  b  "):
            self.read_to("'" + field + "'/", [[field]])
            self.read_to("  '" + field + "'  /", [[field]])

    def test_blanks_ahead_of_quotes_and_behind_them(self):
        self.read_to(" 'a'/", [["a"]])
        self.read_to("'a' /", [["a"]])
        self.read_to("   'a'   /", [["a"]])
        self.read_to("'a' ; 'b' /", [["a", "b"]])
        self.read_to(" '' /", [[""]])
        self.read_to(" '''' /", [["'"]])

    def test_several_rows(self):
        self.read_to("a/b/", [["a"], ["b"]])
        self.read_to("//", [[""], [""]])
        self.read_to("/;//", [[""], ["", ""], [""]])
        self.read_to("a;b/c/d;e;f/", [["a", "b"], ["c"], ["d", "e", "f"]])
        self.read_to(" a /'/' ; b/ ''/", [["a"], ["/", "b"], [""]])
        self.read_to("'a'/a /'a '/", [["a"], ["a"], ["a "]])

    def test_every_other_sign_is_itself(self):
        for sign in ALL_SIGNS:
            self.read_to("'" + sign.replace("'", "''") + "'/", [[sign]])
            self.read_to("'a" + sign.replace("'", "''") + "b'/", [["a" + sign + "b"]])
            if sign not in ";/' ":
                self.read_to(sign + "/", [[sign]])
                self.read_to("a" + sign + "b;" + sign + " " + sign + "/", [["a" + sign + "b", sign + " " + sign]])

    def test_each_answer_is_new(self):
        first = read("a;b/c/")
        first[0].append("d")
        first.append([])
        self.assertEqual(read("a;b/c/"), [["a", "b"], ["c"]])
        table = read("//")
        self.assertIsNot(table[0], table[1])

    def test_long_slips(self):
        self.read_to("a;b" + "/" * 14997, [["a", "b"]] + [[""]] * 14996)
        self.read_to("a/" * 7500, [["a"]] * 7500)
        self.read_to(";" * 14999 + "/", [[""] * 15000])
        self.read_to("'" * 14998 + " /", [["'" * 7498]])
        self.read_to(" " * 14999 + "/", [[""]])
        self.read_to("a" + " " * 14998 + "/", [["a"]])
        self.read_to("a" + " " * 14997 + "a/", [["a" + " " * 14997 + "a"]])
        self.read_to("'a;/'' ' ;" * 1499 + "'a;/'' ' /", [["a;/' "] * 1500])
        self.read_to("ab;" * 6000 + "/", [["ab"] * 6000 + [""]])


class Loose(Slips):
    FIELDS = ("", "a", "a b", "a  b", ";", "/", "'", "a;b", "it's", " ", "   ", " a", "a ", "''", "';/ '")

    def quoted(self, field):
        return "'" + field.replace("'", "''") + "'"

    def test_a_plain_field_in_quotes(self):
        for field in ("", "a", "a b", "a  b", "salt", "2 sacks", '"', "~"):
            self.read_to(self.quoted(field) + "/", [[field]])
            self.read_to("x;" + self.quoted(field) + ";y/", [["x", field, "y"]])

    def test_blanks_around_quotes(self):
        for field in self.FIELDS:
            for ahead in (0, 1, 2, 50):
                for behind in (0, 1, 2, 50):
                    text = " " * ahead + self.quoted(field) + " " * behind
                    self.read_to(text + "/", [[field]])
                    self.read_to(text + ";" + text + "/" + text + "/", [[field, field], [field]])

    def test_blanks_around_plain_fields(self):
        for field in ("", "a", "a b", "a  b"):
            for ahead in (0, 1, 2, 50):
                for behind in (0, 1, 2, 50):
                    text = " " * ahead + field + " " * behind
                    self.read_to(text + "/", [[field]])
                    self.read_to(text + ";" + text + "/" + text + "/", [[field, field], [field]])


class Fault(unittest.TestCase):
    def refused(self, text, row, place, what):
        self.assertEqual(fault(text), f"row {row}, place {place}: {what}", repr(text))
        self.assertIs(type(fault(text)), str)
        for function in (read, tidied):
            for error in (NoTable, SlipError, ValueError):
                with self.assertRaises(error):
                    function(text)
            with self.assertRaises(SlipError) as taken:
                function(text)
            self.assertIs(type(taken.exception), NoTable)
            self.assertNotIsInstance(taken.exception, NoRow)
        self.assertIs(is_tidy(text), False)

    def test_examples_of_the_document(self):
        self.assertEqual(fault("a/b'c/"), "row 1, place 3: quotes in a plain field")
        self.assertEqual(fault("'a' 'b'/"), "row 0, place 4: a sign behind quotes")
        self.assertEqual(fault("'a''"), "row 0, place 4: quotes not ended")
        self.assertEqual(fault("a;"), "row 0, place 2: row not ended")
        self.assertEqual(fault("a/ "), "row 1, place 3: row not ended")
        self.refused("a/b'c/", 1, 3, IN_PLAIN)
        self.refused("'a' 'b'/", 0, 4, BEHIND)
        self.refused("'a''", 0, 4, QUOTES)
        self.refused("a;", 0, 2, ROW)
        self.refused("a/ ", 1, 3, ROW)

    def test_quotes_in_a_plain_field(self):
        self.refused("a'/", 0, 1, IN_PLAIN)
        self.refused("a'b'/", 0, 1, IN_PLAIN)
        self.refused("a''/", 0, 1, IN_PLAIN)
        self.refused("  ab'/", 0, 4, IN_PLAIN)
        self.refused("a;b'/", 0, 3, IN_PLAIN)
        self.refused("a/b/;c'/", 2, 6, IN_PLAIN)
        self.refused("'/'/a'/", 1, 5, IN_PLAIN)

    def test_quotes_behind_a_blank_in_a_plain_field(self):
        self.refused("a '/", 0, 2, IN_PLAIN)
        self.refused("a 'b'/", 0, 2, IN_PLAIN)
        self.refused("a   'b'/", 0, 4, IN_PLAIN)
        self.refused("/a b 'c'/", 1, 5, IN_PLAIN)

    def test_a_sign_straight_behind_quotes(self):
        self.refused("'a'b/", 0, 3, BEHIND)
        self.refused("''a/", 0, 2, BEHIND)
        self.refused("'a''b'c/", 0, 6, BEHIND)
        self.refused("''''a/", 0, 4, BEHIND)
        self.refused("/x;'a'b/", 1, 6, BEHIND)
        self.refused("a/'/'/'b'c/", 2, 9, BEHIND)

    def test_a_sign_behind_quotes_and_blanks(self):
        self.refused("'a' b/", 0, 4, BEHIND)
        self.refused("'a'   b/", 0, 6, BEHIND)
        self.refused("'' a/", 0, 3, BEHIND)
        self.refused("'' ''/", 0, 3, BEHIND)
        self.refused("'a' '/", 0, 4, BEHIND)
        self.refused("'a' '", 0, 4, BEHIND)
        self.refused("a/'a'  ''/", 1, 7, BEHIND)
        self.refused("a/b/ 'a' b/", 2, 9, BEHIND)

    def test_every_sign_behind_quotes(self):
        for sign in ALL_SIGNS:
            if sign not in ";/ ":
                self.refused("'a' " + sign + "/", 0, 4, BEHIND)
            if sign not in ";/' ":
                self.refused("'a'" + sign + "/", 0, 3, BEHIND)

    def test_quotes_not_ended(self):
        self.refused("'", 0, 1, QUOTES)
        self.refused(" '", 0, 2, QUOTES)
        self.refused("'a", 0, 2, QUOTES)
        self.refused("'''", 0, 3, QUOTES)
        self.refused("'''''", 0, 5, QUOTES)
        self.refused("'a ", 0, 3, QUOTES)
        self.refused("a;'b", 0, 4, QUOTES)
        self.refused("a/'", 1, 3, QUOTES)
        self.refused("a/b/c;'d;", 2, 9, QUOTES)

    def test_quotes_that_go_on_beyond_a_mark(self):
        self.refused("'a/", 0, 3, QUOTES)
        self.refused("'a/b/", 0, 5, QUOTES)
        self.refused("a/'b/c/", 1, 7, QUOTES)
        self.refused("'a''/", 0, 5, QUOTES)
        self.refused("'/''/;/", 0, 7, QUOTES)
        self.refused("'a;b", 0, 4, QUOTES)

    def test_row_not_ended(self):
        self.refused("a", 0, 1, ROW)
        self.refused("a b ", 0, 4, ROW)
        self.refused(";", 0, 1, ROW)
        self.refused("a;b", 0, 3, ROW)
        self.refused("a; ", 0, 3, ROW)
        self.refused("a/b", 1, 3, ROW)
        self.refused("//;", 2, 3, ROW)
        self.refused("a/b/ c", 2, 6, ROW)

    def test_quotes_that_end_with_the_text(self):
        self.refused("'a'", 0, 3, ROW)
        self.refused("''", 0, 2, ROW)
        self.refused("''''", 0, 4, ROW)
        self.refused("'a' ", 0, 4, ROW)
        self.refused("'a/'", 0, 4, ROW)
        self.refused("'/'", 0, 3, ROW)
        self.refused("a/'b'", 1, 5, ROW)
        self.refused("a/'b/'  ", 1, 8, ROW)

    def test_blanks_alone(self):
        self.refused(" ", 0, 1, ROW)
        self.refused("     ", 0, 5, ROW)
        self.refused("/ ", 1, 2, ROW)
        self.refused("//   ", 2, 5, ROW)

    def test_the_first_of_several_faults(self):
        self.refused("a'b/'c'd/", 0, 1, IN_PLAIN)
        self.refused("'c'd/a'b/", 0, 3, BEHIND)
        self.refused("a'b'c'", 0, 1, IN_PLAIN)
        self.refused("'a'b'c", 0, 3, BEHIND)
        self.refused("'a' b 'c", 0, 4, BEHIND)
        self.refused("x/a'", 1, 3, IN_PLAIN)
        self.refused("x/'a'b", 1, 5, BEHIND)
        self.refused("x;a' 'b/'", 0, 3, IN_PLAIN)
        self.refused("a/b/c'd/e/'f'g/h", 2, 5, IN_PLAIN)

    def test_a_slip_has_no_fault(self):
        for slip in ("", "/", " /", "a/", "a;b/", "'a'/", "'a''b' ;/", "'/'/", "a/ /", "//"):
            self.assertIsNone(fault(slip), repr(slip))

    def test_a_refusal_leaves_nothing_behind(self):
        self.refused("a/b'/", 1, 3, IN_PLAIN)
        self.refused("b'/", 0, 1, IN_PLAIN)
        self.assertEqual(read("c/"), [["c"]])

    def test_long_texts(self):
        self.refused("a/" * 7499 + "a'", 7499, 14999, IN_PLAIN)
        self.refused("a/" * 7498 + "'a'b", 7498, 14999, BEHIND)
        self.refused("'" + "a/" * 7499 + "a", 0, 15000, QUOTES)
        self.refused("'" * 14999, 0, 14999, QUOTES)
        self.refused("'" * 15000, 0, 15000, ROW)
        self.refused(" " * 15000, 0, 15000, ROW)
        self.refused("a;" * 7500, 0, 15000, ROW)
        self.refused("/" * 14999 + "a", 14999, 15000, ROW)
        self.refused("ab/" * 5500 + " ", 5500, 16501, ROW)


if __name__ == "__main__":
    unittest.main()
