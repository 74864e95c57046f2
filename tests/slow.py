"""What the program tells, the slow way: from strips that were rolled from place to place."""

from rimprints.presses import reckoned
from tests.rolling import strip
from tests.samples import presses


def short_presses(seed, many, most=6, parts=5, longest=300):
    """Presses of a seed that come round soon enough to be rolled often."""
    return [press for press in presses(seed, many, most, parts) if sum(reckoned(press)) <= longest]


def least_round(press):
    """The least (from, length), looked for from length 1 on."""
    begin, length = reckoned(press)
    printed = strip(press, begin + 3 * length)
    for lap in range(1, length + 1):
        at = len(printed) - lap
        while at > 0 and printed[at - 1] == printed[at - 1 + lap]:
            at -= 1
        if at <= begin:
            return (at, lap)
    raise AssertionError("it doesn't come round as it is reckoned")


def far_mark(press, place):
    """The mark at a place, however far, by the strip that was rolled as far as it comes round."""
    begin, length = reckoned(press)
    printed = strip(press, begin + length)
    return printed[place] if place < begin else printed[begin + (place - begin) % length]


def has(sign, letter):
    return sign != "." if letter is None else sign == letter


def far_count(press, letter, place):
    """How many places ahead of a place have a letter, by whole laps."""
    begin, length = reckoned(press)
    printed = strip(press, begin + length)
    told = sum(has(sign, letter) for sign in printed[:min(place, begin)])
    laps, rest = divmod(max(0, place - begin), length)
    for at, sign in enumerate(printed[begin:]):
        if has(sign, letter):
            told += laps + (at < rest)
    return told


def unlike_places(one, other, many):
    """Of the first so many places those at which two presses are unlike."""
    return [place for place, (low, high) in enumerate(zip(strip(one, many), strip(other, many))) if low != high]


def over_each_other(one, other, many):
    """Of the first so many places those at which it matters which one lies over the other."""
    return unlike_places(("over", one, other), ("over", other, one), many)
