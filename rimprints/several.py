"""Several strips: the rims of one wheel that can have printed them all."""

from rimprints.checks import check_length, check_pieces
from rimprints.seen import rim_of

LONGEST_RIM = 10


def known_from(pieces, length):
    """All rims that can have printed the pieces, each from any place on: a list, sorted, of each the least turning."""
    check_pieces(pieces)
    check_length(length, LONGEST_RIM)
    rims = ["?" * length]
    for seen in pieces:
        rims = laid_on(rims, rim_of(seen, length))
    return rims


def laid_on(rims, other):
    """All rims that come of one of the rims and the other rim, in each of its turnings, laid on one another."""
    if other is None:
        return []
    found = set()
    for rim in rims:
        for turning in turnings(other):
            both = laid_together(rim, turning)
            if both is not None:
                # Pieces laid on another turning give the same rims, only turned: the least turning is enough.
                found.add(min(turnings(both)))
    return sorted(found)


def turnings(rim):
    """A rim as it is from each of its places on."""
    return [rim[at:] + rim[:at] for at in range(len(rim))]


def laid_together(rim, other):
    """What is seen on either of two rims, place by place; None where they are unlike."""
    both = []
    for left, right in zip(rim, other):
        if left != right and left != "?" and right != "?":
            return None
        both.append(right if left == "?" else left)
    return "".join(both)
