"""Presses: what is one, how many parts it has, and how it is reckoned."""

from rimprints.errors import NoPress
from rimprints.kinds import is_mark, is_mark_or_none, is_rim, is_row, is_whole
from rimprints.works import work_of

MOST_PARTS = 12


def press_of(thing):
    """The press that was handed in as lists and tuples, of tuples alone."""
    return work_from(thing).press


def parts_in(press):
    """How many parts a press has: itself, and those of the presses within."""
    return work_from(press).parts


def reckoned(press):
    """From where on and by what length a press comes round: (from, length)."""
    work = work_from(press)
    return (work.begin, work.length)


def work_from(thing):
    """The work of a press that was handed in; refused as press_of."""
    # The whole is looked at before a cam is reckoned: NoPress goes ahead of TooLong.
    return work_of(copied(thing, []))


def copied(thing, found):
    """A press as tuples; found has an item for each part that was come upon so far."""
    # Stopping at the first part too many, not counting at the end: a thing may be nested without end.
    if not is_row(thing) or len(found) == MOST_PARTS:
        raise NoPress("no press, or one of too many parts")
    found.append(True)
    match thing:
        case ["wheel", rim]:
            return ("wheel", checked_rim(rim))
        case ["turned", inner, many]:
            return ("turned", copied(inner, found), checked_whole(many, 0))
        case ["over" | "cut" | "held", inner, other]:
            return (thing[0], copied(inner, found), copied(other, found))
        case ["taking", pairs]:
            return ("taking", copied_turns(pairs, found))
        case ["then", inner, many, other]:
            return ("then", copied(inner, found), checked_whole(many, 0), copied(other, found))
        case ["dyed", inner, pairs]:
            return ("dyed", copied(inner, found), copied_dyes(pairs))
        case _:
            raise NoPress("no press has this form")


def checked_rim(rim):
    if not is_rim(rim):
        raise NoPress("a rim is a text of small letters and dots")
    return rim


def checked_whole(many, least):
    if not is_whole(many, least):
        raise NoPress("no whole number, or one too small")
    return many


def checked_pairs(pairs):
    """Refuse what is no list or tuple of pairs."""
    if not is_row(pairs):
        raise NoPress("pairs stand in a tuple")
    for pair in pairs:
        if not is_row(pair) or len(pair) != 2:
            raise NoPress("a pair has two items")
    return pairs


def copied_turns(pairs, found):
    """The parts of a taking press, as a tuple of pairs."""
    turns = checked_pairs(pairs)
    if not 2 <= len(turns) <= 6:
        raise NoPress("two to six presses take turns")
    return tuple([(copied(inner, found), checked_whole(many, 1)) for inner, many in turns])


def copied_dyes(pairs):
    """The pairs of a dyed press, as a tuple of pairs."""
    dyes = {}
    for old, new in checked_pairs(pairs):
        if not is_mark(old) or not is_mark_or_none(new) or old in dyes:
            raise NoPress("a dye is for a mark that has no other one")
        dyes[old] = new
    return tuple(dyes.items())
