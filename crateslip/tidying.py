"""Which slips are tidy, and what a slip is tidied to."""

from crateslip.reading import fault, read
from crateslip.writing import shown


def tidied(slip):
    return shown(read(slip))


def is_tidy(slip):
    # Asked first, since a text that is refused can't be tidied.
    if fault(slip) is not None:
        return False
    return tidied(slip) == slip
