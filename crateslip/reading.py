"""How a slip is read, and which fault a text has that is none."""

from crateslip.errors import NoTable
from crateslip.states import BETWEEN, PLAIN, ends_field, fault_at_end, following, is_fault, is_kept


def in_words(ended, place, what):
    return f"row {ended}, place {place}: {what}"


def fault(slip):
    state = BETWEEN
    ended = 0
    for place, sign in enumerate(slip):
        state = following(state, sign)
        if is_fault(state):
            return in_words(ended, place, state)
        if state == BETWEEN:
            ended = ended + 1
    what = fault_at_end(state)
    if what is None:
        return None
    return in_words(ended, len(slip), what)


def field_of(signs, before):
    field = "".join(signs)
    # Only a plain field's end tells which of its blanks were within it.
    return field.rstrip(" ") if before == PLAIN else field


def table_of(slip):
    table = []
    row = []
    signs = []
    state = BETWEEN
    for sign in slip:
        before = state
        state = following(before, sign)
        if is_kept(before, state):
            signs.append(sign)
        if ends_field(sign, state):
            row.append(field_of(signs, before))
            signs = []
        if state == BETWEEN:
            table.append(row)
            row = []
    return table


def read(slip):
    found = fault(slip)
    if found is not None:
        raise NoTable(found)
    return table_of(slip)
