"""Which fields can be written as they stand."""

# A reader of the slip would take these for the slip's own marks.
MARKS = (";", "/", "'")


def is_plain(field):
    for mark in MARKS:
        if mark in field:
            return False
    # Blanks at the ends would be lost, since a reader passes them over.
    return not field.startswith(" ") and not field.endswith(" ")
