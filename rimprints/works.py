"""Works: presses with what is reckoned of them and of each press within."""

from math import gcd, lcm
from rimprints.errors import TooLong
from rimprints.strips import tally_of

LONGEST = 100000


class Work:
    """A press, the works of the presses within, and where (begin) and by what length it comes round."""

    def __init__(self, press, within):
        self.press = press
        self.within = within
        self.parts = 1 + sum([part.parts for part in within])
        self.begin = 0
        self.length = 1
        # Only a held press asks its cam how many marks are ahead of a place.
        self.tally = None


def work_of(press):
    """The work of what surely is a press, made of tuples; TooLong for a cam that comes round too late."""
    work = Work(press, [work_of(part) for part in presses_within(press)])
    reckon = RECKONS[press[0]]
    work.begin, work.length = reckon(work)
    return work


def presses_within(press):
    """The presses that a press is put together of, in their order."""
    match press:
        case ("wheel", _):
            return []
        case ("turned" | "dyed", inner, _):
            return [inner]
        case ("taking", pairs):
            return [pair[0] for pair in pairs]
        case ("then", inner, _, other):
            return [inner, other]
        case (_, inner, other):
            return [inner, other]


def check_short(begin, length):
    """Refuse what comes round too late for all that it prints till then to be written down."""
    if begin + length > LONGEST:
        raise TooLong("it comes round too late")


def together(one, other):
    """From where on, and by what length two come round together."""
    return max(one.begin, other.begin), lcm(one.length, other.length)


def times_to(amount, step):
    """How many times a step must be made to come to an amount: 0 times, where it is not above 0."""
    return max(0, -(-amount // step))


def reckon_wheel(work):
    return 0, len(work.press[1])


def reckon_turned(work):
    inner = work.within[0]
    return max(0, inner.begin - work.press[2]), inner.length


def reckon_dyed(work):
    inner = work.within[0]
    return inner.begin, inner.length


def reckon_over(work):
    one, other = work.within
    return together(one, other)


def reckon_cut(work):
    press, cam = work.within
    check_short(cam.begin, cam.length)
    return together(press, cam)


def reckon_held(work):
    inner, cam = work.within
    check_short(cam.begin, cam.length)
    cam.tally = tally_of(cam)
    ahead = cam.tally[cam.begin]
    in_round = cam.tally[cam.begin + cam.length] - ahead
    if in_round == 0:
        return cam.begin, 1
    rounds = times_to(inner.begin - ahead, in_round)
    return cam.begin + cam.length * rounds, cam.length * (inner.length // gcd(inner.length, in_round))


def reckon_taking(work):
    whole_turn = 0
    rounds = 0
    length = 1
    for part, pair in zip(work.within, work.press[1]):
        turn = pair[1]
        whole_turn += turn
        rounds = max(rounds, times_to(part.begin, turn))
        length = lcm(length, part.length // gcd(part.length, turn))
    return whole_turn * rounds, whole_turn * length


def reckon_then(work):
    other = work.within[1]
    return work.press[2] + other.begin, other.length


RECKONS = {
    "wheel": reckon_wheel,
    "turned": reckon_turned,
    "over": reckon_over,
    "cut": reckon_cut,
    "held": reckon_held,
    "taking": reckon_taking,
    "then": reckon_then,
    "dyed": reckon_dyed,
}
