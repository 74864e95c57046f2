"""The marks that presses print: at a place, and in a piece of a strip."""

from rimprints.checks import check_place
from rimprints.presses import work_from
from rimprints.strips import rolled


def mark_at(press, place):
    """The mark that a press has at a place, or `.`."""
    return piece(press, place, 1)


def piece(press, first, many):
    """What a press prints from place first on, so many places: a text."""
    work = work_from(press)
    check_place(first)
    check_place(many)
    return rolled(work, first, many)
