"""Presses for the tests."""

import random

A = ("wheel", "a")
AB = ("wheel", "ab")
GAP = ("wheel", ".")
HUGE = 10 ** 30 - 1

# One of each word.
EACH = (
    ("wheel", "ab.z"),
    ("turned", A, 0),
    ("over", A, GAP),
    ("cut", AB, GAP),
    ("held", AB, ("wheel", "x.")),
    ("taking", ((A, 1), (AB, 2))),
    ("then", A, 0, AB),
    ("dyed", AB, (("a", "b"), ("b", "."))),
)


def chain(parts, inner=A):
    """The inner press turned on so often that it has so many parts, where it has one itself."""
    press = inner
    for _ in range(parts - 1):
        press = ("turned", press, 1)
    return press


def as_lists(thing):
    """The same thing with a list for each tuple."""
    return [as_lists(part) for part in thing] if isinstance(thing, tuple) else thing


def as_mixed(thing, turn=0):
    """The same thing with lists and tuples by turns, at each depth."""
    if not isinstance(thing, tuple):
        return thing
    parts = [as_mixed(part, turn + at + 1) for at, part in enumerate(thing)]
    return parts if turn % 2 else tuple(parts)


def made_of_tuples(thing):
    """Whether there is nothing in it but tuples, texts and whole numbers, of just these kinds."""
    if type(thing) is tuple:
        return all(made_of_tuples(part) for part in thing)
    return type(thing) in (str, int)


def presses(seed, many, most=6, parts=5):
    """So many presses by a seed, numbers up to most; always the same ones."""
    dice = random.Random(seed)
    return [one_press(dice, most, parts) for _ in range(many)]


def one_press(dice, most, parts):
    if parts < 2:
        return ("wheel", "".join(dice.choice("ab.") for _ in range(dice.randint(1, 5))))
    word = dice.choice(("wheel", "turned", "dyed") if parts == 2 else tuple(MAKERS))
    return MAKERS[word](dice, most, parts - 1)


def two(dice, most, parts):
    lower = dice.randint(1, max(1, parts - 1))
    return one_press(dice, most, lower), one_press(dice, most, max(1, parts - lower))


def some_wheel(dice, most, parts):
    return one_press(dice, most, 1)


def some_turned(dice, most, parts):
    return ("turned", one_press(dice, most, parts), dice.randint(0, most))


def some_over(dice, most, parts):
    return ("over", *two(dice, most, parts))


def some_cut(dice, most, parts):
    return ("cut", *two(dice, most, parts))


def some_held(dice, most, parts):
    return ("held", *two(dice, most, parts))


def some_taking(dice, most, parts):
    return ("taking", tuple((press, dice.randint(1, most)) for press in two(dice, most, parts)))


def some_then(dice, most, parts):
    inner, other = two(dice, most, parts)
    return ("then", inner, dice.randint(0, most), other)


def some_dyed(dice, most, parts):
    firsts = dice.sample("abc", dice.randint(0, 3))
    return ("dyed", one_press(dice, most, parts), tuple((first, dice.choice("abc.")) for first in firsts))


MAKERS = {
    "wheel": some_wheel, "turned": some_turned, "over": some_over, "cut": some_cut,
    "held": some_held, "taking": some_taking, "then": some_then, "dyed": some_dyed,
}
