"""Two wheels, one over the other: which ones can have printed a seen piece, and what stands beneath a known one."""

from rimprints.checks import check_length, check_seen
from rimprints.presses import checked_rim
from rimprints.seen import rim_of, seen_of, signs_in


def two_for(seen, lower, upper):
    """The rims of two lengths that can have printed the piece: (lower's rim, upper's rim); or None."""
    check_seen(seen)
    check_length(lower)
    check_length(upper)
    high = upper_rim(seen, upper)
    low = rim_of(piece_beneath(seen, high), lower)
    return None if low is None else (low, high)


def least_two(seen, most):
    """The lengths up to a most, of the least sum, then of the least lower one, that can have printed the piece."""
    check_seen(seen)
    check_length(most)
    lefts = [piece_beneath(seen, upper_rim(seen, upper)) for upper in range(1, most + 1)]
    for both in range(2, 2 * most + 1):
        for lower in range(max(1, both - most), min(both - 1, most) + 1):
            upper = both - lower
            if rim_of(lefts[upper - 1], lower) is not None:
                return (lower, upper)
    return None


def beneath(seen, rim):
    """The piece beneath a wheel that lies uppermost; None where a seen place is unlike what the wheel prints."""
    check_seen(seen)
    checked_rim(rim)
    return piece_beneath(seen, rim)


def upper_rim(seen, length):
    """The rim of the upper wheel: a letter wherever it can have one, so that the least is left to the lower wheel."""
    rim = []
    for at in range(length):
        signs = signs_in(seen_of(seen, at, length))
        if not signs:
            rim.append("?")
        elif len(signs) == 1:
            rim.append(signs[0])
        else:
            rim.append(".")
    return "".join(rim)


def piece_beneath(seen, rim):
    """What is seen where the rim has no mark, `?` elsewhere; None where what is seen is unlike the rim's mark."""
    left = []
    for place, sign in enumerate(seen):
        mark = rim[place % len(rim)]
        if mark == ".":
            left.append(sign)
        elif sign == "?" or sign == mark:
            left.append("?")
        else:
            return None
    return "".join(left)
