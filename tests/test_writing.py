"""Points 2, 3 and 4: how fields, rows and tables are written."""

import copy
import inspect
import itertools
import unittest

from crateslip.errors import NoRow, NoTable, SlipError
from crateslip.signs import is_plain
from crateslip.writing import shown, shown_field

ALL_SIGNS = [chr(code) for code in range(ord(" "), ord("~") + 1) if chr(code) != "%"]


class ShownField(unittest.TestCase):
    def written(self, field, text):
        self.assertEqual(shown_field(field), text)
        self.assertIs(type(shown_field(field)), str)

    def test_interface(self):
        self.assertEqual(list(inspect.signature(shown_field).parameters), ["field"])
        self.assertEqual(shown_field(field="a;b"), "'a;b'")

    def test_examples_of_the_document(self):
        self.written("a;b", "'a;b'")
        self.written("it's", "'it''s'")
        self.written("'", "''''")
        self.written(" ", "' '")

    def test_plain_fields_stand_as_they_are(self):
        for field in ("salt", "2 sacks", "a  b", "a", "7", '"', '"a"', "-", "~", "!", "&", "\\", "a\\b", "`"):
            self.written(field, field)

    def test_empty_field_is_nothing(self):
        self.written("", "")

    def test_marks_without_quotes(self):
        for field in (";", "/", ";;", "//", ";/", "/a", "a/", "a/b", ";a", "a;", "a/b;c"):
            self.written(field, "'" + field + "'")

    def test_blanks_at_an_end(self):
        for field in ("  ", " a", "a ", " a ", "  a", "a  ", " a b", "a b "):
            self.written(field, "'" + field + "'")

    def test_quotes_at_the_ends(self):
        self.written("'a", "'''a'")
        self.written("a'", "'a'''")
        self.written("'a'", "'''a'''")
        self.written("' ", "''' '")
        self.written(" '", "' '''")

    def test_several_quotes(self):
        self.written("''", "''''''")
        self.written("'''", "''''''''")
        self.written("a''b", "'a''''b'")
        self.written("a'b'c", "'a''b''c'")
        self.written("a'''b", "'a''''''b'")

    def test_quotes_with_other_marks(self):
        self.written("';'", "''';'''")
        self.written("a'/b", "'a''/b'")
        self.written("' / ; '", "''' / ; '''")

    def test_a_written_field_is_a_field_too(self):
        self.written("'a;b'", "'''a;b'''")
        self.written("''''", "'" + "'" * 8 + "'")

    def test_each_sign_alone(self):
        for sign in ALL_SIGNS:
            if sign == "'":
                self.written(sign, "''''")
            elif sign in ";/ ":
                self.written(sign, "'" + sign + "'")
            else:
                self.written(sign, sign)

    def test_all_short_fields(self):
        for length in range(6):
            for signs in itertools.product("a;/' ", repeat=length):
                field = "".join(signs)
                if is_plain(field):
                    self.written(field, field)
                else:
                    within = "".join(["''" if sign == "'" else sign for sign in field])
                    self.written(field, "'" + within + "'")

    def test_long_fields(self):
        self.written("'" * 900, "'" * 1802)
        self.written("a" * 900, "a" * 900)
        self.written("a" * 899 + " ", "'" + "a" * 899 + " '")


class Shown(unittest.TestCase):
    def written(self, table, text):
        kept = copy.deepcopy(table)
        rows = list(table)
        answer = shown(table)
        self.assertEqual(answer, text)
        self.assertIs(type(answer), str)
        self.assertEqual(table, kept)
        self.assertEqual(len(rows), len(table))
        for row, ahead in zip(table, rows):
            self.assertIs(row, ahead)

    def test_interface(self):
        self.assertEqual(list(inspect.signature(shown).parameters), ["table"])
        self.assertEqual(shown(table=[["a"]]), "a/")

    def test_example_of_the_document(self):
        self.written([["salt", "2 sacks"], ["nuts; figs", ""]], "salt;2 sacks/'nuts; figs';/")

    def test_table_without_rows(self):
        self.written([], "")

    def test_one_row(self):
        self.written([["a"]], "a/")
        self.written([["a", "b"]], "a;b/")
        self.written([["a", "b", "c"]], "a;b;c/")

    def test_empty_fields(self):
        self.written([[""]], "/")
        self.written([["", ""]], ";/")
        self.written([["", "", ""]], ";;/")
        self.written([["", "a"]], ";a/")
        self.written([["a", ""]], "a;/")
        self.written([["a", "", "b"]], "a;;b/")

    def test_several_rows(self):
        self.written([["a"], ["b"]], "a/b/")
        self.written([["a", "b"], ["c"], ["d", "e", "f"]], "a;b/c/d;e;f/")
        self.written([[""], [""]], "//")
        self.written([[""], ["", ""], [""]], "/;//")

    def test_order_is_kept_and_nothing_is_left_out(self):
        self.written([["b", "a", "b"], ["a"], ["b", "a", "b"]], "b;a;b/a/b;a;b/")

    def test_fields_in_quotes(self):
        self.written([["'"]], "''''/")
        self.written([["/"]], "'/'/")
        self.written([[";", "/"], [" "]], "';';'/'/' '/")
        self.written([["it's", "a"], ["", "b "]], "'it''s';a/;'b '/")
        self.written([["a/b/"], ["';'"]], "'a/b/'/''';'''/")

    def test_the_same_row_twice(self):
        row = ["a", "b;"]
        self.written([row, row], "a;'b;'/a;'b;'/")

    def test_the_same_answer_again(self):
        table = [["a", "b;"], [""]]
        self.assertEqual([shown(table), shown(table), shown(table)], ["a;'b;'//"] * 3)

    def test_a_changed_table_is_written_anew(self):
        table = [["a"]]
        self.assertEqual(shown(table), "a/")
        table[0].append("b")
        table.append([" "])
        self.assertEqual(shown(table), "a;b/' '/")

    def test_large_tables(self):
        self.written([["abc", "a;b", "it'"] for row in range(100)], "abc;'a;b';'it'''/" * 100)
        self.written([["abc"] * 300], "abc;" * 299 + "abc/")
        self.written([["a b"] for row in range(310)], "a b/" * 310)
        self.written([[""] * 310], ";" * 309 + "/")
        self.written([["'''"] * 300], ";".join(["''''''''"] * 300) + "/")
        self.written([["'" * 900]], "'" * 1802 + "/")

    def test_nothing_is_refused_for_its_size(self):
        self.written([["abc", "a/b"] for row in range(200)], "abc;'a/b'/" * 200)


class RowWithoutFields(unittest.TestCase):
    TABLES = (
        [[]],
        [[], []],
        [[], ["a"], ["b"]],
        [["a"], [], ["b"]],
        [["a"], ["b"], []],
        [["a", "b;"], [""], []],
        [[""], []],
        [[], [""]],
        [["a"]] * 299 + [[]],
    )

    def test_refused_with_no_row(self):
        for table in self.TABLES:
            for error in (NoRow, SlipError, ValueError):
                with self.assertRaises(error):
                    shown(copy.deepcopy(table))

    def test_the_refusal_is_no_other(self):
        for table in self.TABLES:
            with self.assertRaises(SlipError) as taken:
                shown(copy.deepcopy(table))
            self.assertIs(type(taken.exception), NoRow)
            self.assertNotIsInstance(taken.exception, NoTable)

    def test_the_table_is_not_changed(self):
        for table in self.TABLES:
            handed = copy.deepcopy(table)
            rows = list(handed)
            with self.assertRaises(NoRow):
                shown(handed)
            self.assertEqual(handed, table)
            for row, ahead in zip(handed, rows):
                self.assertIs(row, ahead)

    def test_a_refusal_leaves_nothing_behind(self):
        with self.assertRaises(NoRow):
            shown([["a"], []])
        self.assertEqual(shown([["b"]]), "b/")


if __name__ == "__main__":
    unittest.main()
