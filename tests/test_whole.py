"""Points 1 to 8 over the whole program."""

import copy
import itertools
import re
import unittest

from crateslip.errors import NoTable
from crateslip.reading import fault, read
from crateslip.tidying import is_tidy, tidied
from crateslip.writing import shown, shown_field

FIELDS = ("", "a", "2 sacks", "a  b", ";", "/", "'", "a;b", "a/b", "it's", " ", "   ", " a", "a ", "''", "'''", "a''b")
FIELDS += ("';/ '", "' ", " '", "';'", "'/", "/'", "''/''", "a' 'b", '"', "\\", "~", "row 0, place 0: ")

# Point 5 as a form, told apart from the program's own way of point 6.
FIELD = r" *(?:'(?:[^']|'')*'|[^' ;/](?:[^';/]*[^' ;/])?|) *"
ROW = re.compile("(?:" + FIELD + ";)*" + FIELD + "/")
FIELD_OF_ROW = re.compile("(" + FIELD + ")[;/]")


def rows_of(text):
    rows = []
    match = ROW.match(text)
    while match is not None:
        rows.append(match.group())
        text = text[match.end():]
        match = ROW.match(text)
    return rows, text


def is_slip(text):
    return rows_of(text)[1] == ""


def table_by_form(slip):
    table = []
    for row in rows_of(slip)[0]:
        written = [text.strip(" ") for text in FIELD_OF_ROW.findall(row)]
        table.append([text[1:-1].replace("''", "'") if text.startswith("'") else text for text in written])
    return table


def can_go_on(text):
    return any(is_slip(text + rest) for rest in ("", "/", "'/"))


def fault_by_form(text):
    if is_slip(text):
        return None
    place = 0
    while place < len(text) and can_go_on(text[:place + 1]):
        place += 1
    rows, rest = rows_of(text[:place])
    if place < len(text):
        last = FIELD_OF_ROW.findall(rest + "/")[-1].strip(" ")
        what = "a sign behind quotes" if last.startswith("'") else "quotes in a plain field"
    else:
        what = "row not ended" if is_slip(text + "/") else "quotes not ended"
    return f"row {len(rows)}, place {place}: {what}"


class WrittenAndRead(unittest.TestCase):
    def there_and_back(self, table):
        kept = copy.deepcopy(table)
        slip = shown(table)
        self.assertEqual(read(slip), kept, repr(slip))
        self.assertIsNone(fault(slip))
        self.assertEqual(tidied(slip), slip)
        self.assertIs(is_tidy(slip), True)
        self.assertEqual(table, kept)

    def test_no_rows(self):
        self.there_and_back([])

    def test_each_field_alone(self):
        for field in FIELDS:
            self.there_and_back([[field]])

    def test_two_fields_in_one_row_and_in_two(self):
        for first, second in itertools.product(FIELDS, repeat=2):
            self.there_and_back([[first, second]])
            self.there_and_back([[first], [second]])

    def test_all_fields_in_one_table(self):
        self.there_and_back([list(FIELDS)])
        self.there_and_back([[field] for field in FIELDS])
        self.there_and_back([list(FIELDS), [""], list(reversed(FIELDS))])

    def test_all_short_fields(self):
        for length in range(6):
            for signs in itertools.product("a;/' ", repeat=length):
                self.there_and_back([["".join(signs)]])

    def test_large_tables(self):
        self.there_and_back([["abc", "a;b", "it'"] for row in range(100)])
        self.there_and_back([["'''"] * 300])
        self.there_and_back([[" ; "] for row in range(310)])
        self.there_and_back([[""] * 310])
        self.there_and_back([[""] for row in range(310)])
        self.there_and_back([["'" * 900]])
        self.there_and_back([["a' /;"] * 180])
        self.there_and_back([list(FIELDS) for row in range(15)])

    def test_a_slip_is_a_field_too(self):
        slip = "a"
        for step in range(6):
            slip = shown([[slip, slip + " "]])
            self.there_and_back([[slip]])


class AllShortTexts(unittest.TestCase):
    def test_read_or_refused(self):
        for length in range(7):
            for signs in itertools.product("a;/' ", repeat=length):
                self.check("".join(signs))

    def check(self, text):
        expected = fault_by_form(text)
        self.assertEqual(fault(text), expected, repr(text))
        if expected is None:
            self.read_by_form(text)
        else:
            self.assertRaises(NoTable, read, text)
            self.assertRaises(NoTable, tidied, text)
            self.assertIs(is_tidy(text), False, repr(text))

    def read_by_form(self, slip):
        table = table_by_form(slip)
        self.assertEqual(read(slip), table, repr(slip))
        self.assertEqual(tidied(slip), shown(table), repr(slip))
        self.assertIs(is_tidy(slip), shown(table) == slip, repr(slip))


class Loosened(unittest.TestCase):
    def loose_forms(self, field):
        quoted = "'" + field.replace("'", "''") + "'"
        return [shown_field(field) + "  ", " " + shown_field(field), quoted, "   " + quoted + " "]

    def test_loose_slips_are_read_and_tidied(self):
        for first, second in itertools.product(FIELDS, repeat=2):
            for one, other in zip(self.loose_forms(first), reversed(self.loose_forms(second))):
                slip = one + ";" + other + "/" + other + "/"
                table = [[first, second], [second]]
                self.assertEqual(read(slip), table, repr(slip))
                self.assertIsNone(fault(slip))
                self.assertEqual(tidied(slip), shown(table))
                self.assertIs(is_tidy(slip), False)


class LongSlip(unittest.TestCase):
    def test_read_and_refused(self):
        slip = " a b ;'it''s' ; ;'/'/" * 714
        self.assertGreater(len(slip), 14900)
        table = [["a b", "it's", "", "/"]] * 714
        self.assertEqual(read(slip), table)
        self.assertIsNone(fault(slip))
        self.assertEqual(tidied(slip), "a b;'it''s';;'/'/" * 714)
        for end, what in (("a'", "quotes in a plain field"), ("'' '", "a sign behind quotes")):
            text = slip + end
            self.assertEqual(fault(text), f"row 714, place {len(text) - 1}: {what}")
            self.assertRaises(NoTable, read, text)
            self.assertRaises(NoTable, tidied, text)
        for end, what in (("'/", "quotes not ended"), (" ", "row not ended")):
            text = slip + end
            self.assertEqual(fault(text), f"row 714, place {len(text)}: {what}")
            self.assertRaises(NoTable, read, text)
            self.assertRaises(NoTable, tidied, text)


if __name__ == "__main__":
    unittest.main()
