"""How fields, rows and tables are written."""

from crateslip.errors import NoRow
from crateslip.signs import is_plain


def shown_field(field):
    if is_plain(field):
        return field
    # A lone ' would end the quotes, so each one within them stands twice.
    doubled = field.replace("'", "''")
    return "'" + doubled + "'"


def shown_row(row):
    # Written out, a row without fields would look like a row of one empty field.
    if len(row) == 0:
        raise NoRow("a row without fields is not written")
    return ";".join([shown_field(field) for field in row]) + "/"


def shown(table):
    return "".join([shown_row(row) for row in table])
