"""Rounds: by what least length a press comes round, and presses told plainly."""

from rimprints.errors import NoPress
from rimprints.kinds import is_rim
from rimprints.laid import laid_from
from rimprints.works import check_short


def round_of(press):
    """The round of a press: (from, length), both the least ones."""
    laid = laid_from(press)
    return (laid.begin, laid.length)


def plain(press):
    """A press as two texts: what is ahead of its round, and the round."""
    laid = laid_from(press)
    return (laid.ahead, laid.lap)


def press_by(ahead, lap):
    """The press of two texts: what is ahead of its round, and the round."""
    if not is_rim(lap) or not (ahead == "" or is_rim(ahead)):
        raise NoPress("what is ahead, and the round, are of small letters and dots")
    check_short(len(ahead), len(lap))
    if ahead == "":
        return ("wheel", lap)
    return ("then", ("wheel", ahead), len(ahead), ("wheel", lap))
