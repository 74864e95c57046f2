"""Presses rolled from place to place, as the document tells them: slow, and nothing like the program."""

import itertools


def roll(press):
    """What the press prints, place by place, without end."""
    return WORDS[press[0]](*press[1:])


def strip(press, many):
    return "".join(itertools.islice(roll(press), many))


def wheel(rim):
    while True:
        yield from rim


def turned(press, many):
    return itertools.islice(roll(press), many, None)


def over(lower, upper):
    for low, high in zip(roll(lower), roll(upper)):
        yield low if high == "." else high


def cut(press, cam):
    for sign, lift in zip(roll(press), roll(cam)):
        yield "." if lift == "." else sign


def held(press, cam):
    printed = roll(press)
    for lift in roll(cam):
        yield "." if lift == "." else next(printed)


def taking(parts):
    rolling = [(roll(press), many) for press, many in parts]
    while True:
        for printed, many in rolling:
            for _ in range(many):
                yield next(printed)


def then(press, many, other):
    yield from itertools.islice(roll(press), many)
    yield from roll(other)


def dyed(press, pairs):
    for sign in roll(press):
        yield dict(pairs).get(sign, sign)


WORDS = {
    "wheel": wheel, "turned": turned, "over": over, "cut": cut,
    "held": held, "taking": taking, "then": then, "dyed": dyed,
}
