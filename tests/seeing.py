"""Seen pieces, drawn; and what the document's words tell of them, each gone through place by place: slow."""

import itertools
import random

NO_PIECES = (None, "", "A", "a1", "a b", "ab ", "\n", "a\n", "-", "*", "a,b", "!", "\u00e4", "`", "{", "/", "@", ">", 0,
             7, True,
             b"ab", ["a"], ("a",), [], (), {}, ("wheel", "a"))
NO_NUMBERS = (0, -1, -40, 10 ** 29, True, False, None, "1", "", "a", 1.0, (1,), [1], b"1")


def drawn(seed, many, signs="ab.?", most=14):
    """So many pieces by a seed of one place at least; always the same ones."""
    dice = random.Random(seed)
    return ["".join(dice.choice(signs) for _ in range(dice.randint(1, most))) for _ in range(many)]


def printed(seed, many, longest=9, most=60, signs="abc.", unseen=0.3):
    """So many pieces that a wheel has printed, as (piece, rim), some places unseen."""
    dice = random.Random(seed)
    told = []
    for _ in range(many):
        rim = "".join(dice.choice(signs) for _ in range(dice.randint(1, longest)))
        told.append((veiled(dice, rolled(rim, 0, dice.randint(1, most)), unseen), rim))
    return told


def printed_by_two(seed, many, longest=7, most=80, unseen=0.3):
    """So many pieces that two wheels have printed, as (piece, lower rim, upper rim), some places unseen."""
    dice = random.Random(seed)
    told = []
    for _ in range(many):
        lower, upper = ["".join(dice.choice(signs) for _ in range(dice.randint(1, longest))) for signs in ("abc.",
                                                                                                           "ab....")]
        told.append((veiled(dice, one_over_other(lower, upper, dice.randint(1, most)), unseen), lower, upper))
    return told


def veiled(dice, text, unseen):
    return "".join("?" if dice.random() < unseen else sign for sign in text)


def rolled(rim, first, many):
    return "".join(itertools.islice(itertools.cycle(rim), first % len(rim), first % len(rim) + many))


def one_over_other(lower, upper, many):
    pairs = zip(rolled(lower, 0, many), rolled(upper, 0, many))
    return "".join(low if high == "." else high for low, high in pairs)


def is_seen_of(seen, text):
    """Whether what is seen is of this text, each place that is not unseen."""
    return len(seen) == len(text) and all(sign in ("?", mark) for sign, mark in zip(seen, text))


def all_rims(length, signs):
    return ["".join(rim) for rim in itertools.product(signs, repeat=length)]


def filled(rim, signs):
    """All rims that have each of the signs wherever this one has `?`."""
    return ["".join(each) for each in itertools.product(*[signs if sign == "?" else sign for sign in rim])]


def can_have_printed(seen, length):
    """No two seen places that are apart by a multiple of the length are unlike."""
    for one, sign in enumerate(seen):
        for other in range(one + 1, len(seen)):
            if (other - one) % length == 0 and "?" not in (sign, seen[other]) and sign != seen[other]:
                return False
    return True


def seen_at(seen, place, length):
    """All that is seen of one place of a rim."""
    return [sign for at, sign in enumerate(seen) if at % length == place and sign != "?"]


def slow_rim(seen, length):
    if not can_have_printed(seen, length):
        return None
    rim = ""
    for place in range(length):
        signs = seen_at(seen, place, length)
        rim += signs[0] if signs else "?"
    return rim


def slow_spoilt(seen, length):
    spoilt, rim = 0, ""
    for place in range(length):
        signs = seen_at(seen, place, length)
        best = "?"
        for sign in ".abcdefghijklmnopqrstuvwxyz":
            if signs.count(sign) > (0 if best == "?" else signs.count(best)):
                best = sign
        spoilt += sum(sign != best for sign in signs)
        rim += best
    return (spoilt, rim)


def slow_two(seen, lower, upper):
    high = ""
    for place in range(upper):
        signs = seen_at(seen, place, upper)
        if not signs:
            high += "?"
        elif signs[0] != "." and all(sign == signs[0] for sign in signs):
            high += signs[0]
        else:
            high += "."
    low = ["?"] * lower
    for at, sign in enumerate(seen):
        if sign != "?" and high[at % upper] == ".":
            if low[at % lower] not in ("?", sign):
                return None
            low[at % lower] = sign
    return ("".join(low), high)


def slow_least_two(seen, most):
    """The least by (sum, lower) of all pairs of lengths that can have printed it."""
    pairs = [(lower, upper) for lower in range(1, most + 1) for upper in range(1, most + 1)
             if slow_two(seen, lower, upper) is not None]
    return min(pairs, key=lambda pair: (sum(pair), pair[0]), default=None)


def slow_beneath(seen, rim):
    told = ""
    for at, sign in enumerate(seen):
        mark = rim[at % len(rim)]
        if mark != "." and sign not in ("?", mark):
            return None
        told += "?" if mark != "." or sign == "?" else sign
    return told


def slow_known(pieces, length):
    """For each way to turn them the pieces laid on one rim."""
    told = set()
    for begins in itertools.product(range(length), repeat=len(pieces)):
        rim = laid(pieces, begins, length)
        if rim is not None:
            told.add(min(rim[at:] + rim[:at] for at in range(length)))
    return sorted(told)


def laid(pieces, begins, length):
    rim = ["?"] * length
    for seen, begin in zip(pieces, begins):
        for at, sign in enumerate(seen):
            place = (begin + at) % length
            if sign != "?":
                if rim[place] not in ("?", sign):
                    return None
                rim[place] = sign
    return "".join(rim)
