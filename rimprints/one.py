"""One wheel: which one can have printed a seen piece, and which one with the fewest spoilt places."""

from rimprints.checks import check_length, check_seen
from rimprints.seen import rim_of, seen_of, signs_in


def lengths_for(seen, most):
    """All lengths up to a most of wheels that can have printed the piece: a list, rising."""
    check_seen(seen)
    check_length(most)
    return [length for length in range(1, most + 1) if rim_of(seen, length) is not None]


def rim_for(seen, length):
    """The rim of a length that can have printed the piece, `?` where nothing of it is seen; or None."""
    check_seen(seen)
    check_length(length)
    return rim_of(seen, length)


def spoilt_for(seen, length):
    """The fewest spoilt places by a wheel of a length, and its rim: (how many, rim)."""
    check_seen(seen)
    check_length(length)
    return spoilt_of(seen, length)


def least_spoilt(seen, most):
    """The length up to a most by which the fewest places are spoilt, the least such: (how many, length, rim)."""
    check_seen(seen)
    check_length(most)
    least, rim = spoilt_of(seen, 1)
    best = 1
    for length in range(2, most + 1):
        many, other = spoilt_of(seen, length)
        if many < least:
            least, best, rim = many, length, other
    return (least, best, rim)


def spoilt_of(seen, length):
    """How many places the wheel spoils that has on its rim what is seen most often, and its rim."""
    spoilt = 0
    rim = []
    for at in range(length):
        text = seen_of(seen, at, length)
        sign = most_often(text)
        spoilt += len(text) - text.count(sign)
        rim.append(sign)
    return (spoilt, "".join(rim))


def most_often(text):
    """The sign that a text has most often, of several the first in their order; `?` for none."""
    best = "?"
    for sign in signs_in(text):
        if text.count(sign) > text.count(best):
            best = sign
    return best
