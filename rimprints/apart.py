"""Two presses: where their marks are unlike, and whether they are one press turned on, or put the other way round."""

from rimprints.checks import check_number, check_place
from rimprints.laid import Laid, count_ahead, laid_from, laid_out, place_of, short_work
from rimprints.strips import rolled
from rimprints.works import check_short, together


def first_apart(one, other):
    """The first place at which two presses have unlike marks, or None."""
    left = laid_from(one)
    right = laid_from(other)
    # Behind both beginnings p + q places are enough, of rounds of lengths p and q: alike there, they are so for ever.
    many = max(left.begin, right.begin) + left.length + right.length
    for place, (low, high) in enumerate(zip(laid_out(left, many), laid_out(right, many))):
        if low != high:
            return place
    return None


def many_apart(one, other, place):
    """How many places ahead of a place have unlike marks."""
    left = laid_from(one)
    right = laid_from(other)
    check_place(place)
    return count_ahead(unlike(left, right), None, place)


def nth_apart(one, other, number):
    """The so-manieth place, from 0 on, with unlike marks; None where there are not so many."""
    left = laid_from(one)
    right = laid_from(other)
    check_number(number)
    return place_of(unlike(left, right), None, number)


def unlike(left, right):
    """A strip that has a mark wherever two strips are unlike; TooLong where they come round together too late."""
    begin, length = together(left, right)
    check_short(begin, length)
    many = begin + length
    signs = ["." if low == high else "x" for low, high in zip(laid_out(left, many), laid_out(right, many))]
    return Laid("".join(signs[:begin]), "".join(signs[begin:]))


def turning_of(one, other):
    """The least many by which the one turned on is the other one for ever, or None."""
    left = laid_from(one)
    right = laid_from(other)
    if right.begin == 0:
        return turning_to_lap(left, right.lap)
    # Turned on, what is ahead of a round becomes the shorter by each place: one many alone can do.
    many = left.begin - right.begin
    if many < 0 or left.ahead[many:] != right.ahead or left.lap != right.lap:
        return None
    return many


def turning_to_lap(laid, lap):
    """The least many by which a strip turned on has nothing ahead of the lap, or None."""
    if laid.length != len(lap):
        return None
    many = (laid.lap + laid.lap).find(lap)
    return None if many < 0 else laid.begin + many


def order_matters(one, other):
    """The first place at which the one over the other isn't the same as the other over the one, or None."""
    left = short_work(one)
    right = short_work(other)
    begin, length = together(left, right)
    check_short(begin, length)
    many = begin + length
    for place, (low, high) in enumerate(zip(rolled(left, 0, many), rolled(right, 0, many))):
        if low != high and low != "." and high != ".":
            return place
    return None
