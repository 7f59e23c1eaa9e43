"""Where one stands in a slip, and where its next sign leads."""

# At the slip's start and behind each row's end: here alone a slip may end.
BETWEEN = "between rows"
# Where a field may begin, in a row that has begun.
AHEAD = "ahead of a field"
PLAIN = "in a plain field"
QUOTED = "in quotes"
# Behind a ' in quotes: only the next sign tells whether it has ended them.
IN_DOUBT = "behind a quote"
# Behind quotes and a blank: another ' is no longer part of them.
BEHIND = "behind quotes"

# The faults that a sign leads to; from here one goes no further.
STRAY_QUOTE = "quotes in a plain field"
STRAY_SIGN = "a sign behind quotes"

# The faults that the text's end leads to.
OPEN_QUOTES = "quotes not ended"
OPEN_ROW = "row not ended"


def following(state, sign):
    # Quotes come first: within them a ; and a / are signs like any other.
    if state == QUOTED:
        return IN_DOUBT if sign == "'" else QUOTED
    if sign == ";":
        return AHEAD
    if sign == "/":
        return BETWEEN
    if state == PLAIN:
        return STRAY_QUOTE if sign == "'" else PLAIN
    if state == IN_DOUBT and sign == "'":
        return QUOTED
    if state == IN_DOUBT or state == BEHIND:
        return BEHIND if sign == " " else STRAY_SIGN
    if sign == "'":
        return QUOTED
    return AHEAD if sign == " " else PLAIN


def is_fault(state):
    return state == STRAY_QUOTE or state == STRAY_SIGN


def fault_at_end(state):
    if state == BETWEEN:
        return None
    return OPEN_QUOTES if state == QUOTED else OPEN_ROW


def is_kept(before, after):
    # The ' that begins quotes and the first of two within them are not the field's own.
    if after == QUOTED:
        return before == QUOTED or before == IN_DOUBT
    return after == PLAIN


def ends_field(sign, after):
    # A blank leads ahead of a field too, but ends none.
    return after == BETWEEN or (after == AHEAD and sign == ";")
