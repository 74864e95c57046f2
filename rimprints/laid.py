"""Strips laid out: what is ahead of the round, and the round, by its least length.

Of a strip that is laid out all counts are told, however far.
"""

from rimprints.presses import work_from
from rimprints.strips import rolled
from rimprints.works import check_short


class Laid:
    """A strip that prints what is ahead once, and behind it the lap again and again."""

    def __init__(self, ahead, lap):
        self.ahead = ahead
        self.lap = lap
        self.begin = len(ahead)
        self.length = len(lap)


def short_work(thing):
    """The work of a press that was handed in; refused as press_of, and where it comes round too late."""
    work = work_from(thing)
    check_short(work.begin, work.length)
    return work


def laid_from(thing):
    """The strip of a press that was handed in, laid out; refused as short_work."""
    work = short_work(thing)
    printed = rolled(work, 0, work.begin + work.length)
    length = least_lap(printed[work.begin:])
    begin = work.begin
    while begin > 0 and printed[begin - 1] == printed[begin - 1 + length]:
        begin -= 1
    return Laid(printed[:begin], printed[begin:begin + length])


def least_lap(lap):
    """The least length by which a text that is printed again and again comes round."""
    return (lap + lap).find(lap, 1)


def laid_out(laid, many):
    """The first so many places of a strip: a text."""
    laps = many // laid.length + 1
    return (laid.ahead + laid.lap * laps)[:many]


def count_ahead(laid, letter, place):
    """How many places ahead of a place have a letter, or any mark where it is None."""
    if place <= laid.begin:
        return count_in(laid.ahead[:place], letter)
    laps, rest = divmod(place - laid.begin, laid.length)
    ahead = count_in(laid.ahead, letter)
    return ahead + laps * count_in(laid.lap, letter) + count_in(laid.lap[:rest], letter)


def place_of(laid, letter, number):
    """The so-manieth place, from 0 on, that has a letter, or any mark where it is None; None where there is none."""
    places = places_in(laid.ahead, letter)
    if number < len(places):
        return places[number]
    in_lap = places_in(laid.lap, letter)
    if not in_lap:
        return None
    laps, rest = divmod(number - len(places), len(in_lap))
    return laid.begin + laps * laid.length + in_lap[rest]


def count_in(text, letter):
    if letter is None:
        return len(text) - text.count(".")
    return text.count(letter)


def places_in(text, letter):
    if letter is None:
        return [place for place, sign in enumerate(text) if sign != "."]
    return [place for place, sign in enumerate(text) if sign == letter]
