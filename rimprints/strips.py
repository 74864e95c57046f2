"""Pieces of the strips that presses print, from any place on.

A work (rimprints/works.py) is a press with what is reckoned of it. No place
ahead of the asked ones is rolled over, so places may be of any size.
"""


def rolled(work, first, many):
    """What the press prints from place first on, so many places: a text."""
    roll = ROLLS[work.press[0]]
    return roll(work, first, many)


def marks_ahead(cam, place):
    """How many marks a tallied cam has ahead of a place."""
    if place < cam.begin:
        return cam.tally[place]
    rounds, rest = divmod(place - cam.begin, cam.length)
    in_round = cam.tally[cam.begin + cam.length] - cam.tally[cam.begin]
    return cam.tally[cam.begin + rest] + rounds * in_round


def tally_of(cam):
    """How many marks are ahead of each place, up to where the cam comes round first."""
    tally = [0]
    marks = 0
    for sign in rolled(cam, 0, cam.begin + cam.length):
        if sign != ".":
            marks += 1
        tally.append(marks)
    return tally


def roll_wheel(work, first, many):
    rim = work.press[1]
    at = first % len(rim)
    rounds = (at + many) // len(rim) + 1
    return (rim * rounds)[at:at + many]


def roll_turned(work, first, many):
    return rolled(work.within[0], first + work.press[2], many)


def roll_over(work, first, many):
    lower = rolled(work.within[0], first, many)
    upper = rolled(work.within[1], first, many)
    return "".join([low if high == "." else high for low, high in zip(lower, upper)])


def roll_cut(work, first, many):
    printed = rolled(work.within[0], first, many)
    lifts = rolled(work.within[1], first, many)
    return "".join(["." if lift == "." else sign for sign, lift in zip(printed, lifts)])


def roll_held(work, first, many):
    press, cam = work.within
    lifts = rolled(cam, first, many)
    printed = rolled(press, marks_ahead(cam, first), many - lifts.count("."))
    told = []
    used = 0
    for lift in lifts:
        if lift == ".":
            told.append(".")
        else:
            told.append(printed[used])
            used += 1
    return "".join(told)


def roll_taking(work, first, many):
    turns = [pair[1] for pair in work.press[1]]
    printed = []
    for at, part in enumerate(work.within):
        begin = places_ahead(turns, at, first)
        printed.append(rolled(part, begin, places_ahead(turns, at, first + many) - begin))
    return by_turns(turns, printed, first, many)


def places_ahead(turns, at, place):
    """How many places ahead of a place the part at that turn prints."""
    rounds, rest = divmod(place, sum(turns))
    begun = rest - sum(turns[:at])
    return rounds * turns[at] + min(max(begun, 0), turns[at])


def by_turns(turns, printed, first, many):
    """The piece from place first on, put together of what each part prints in it."""
    left = first % sum(turns)
    at = 0
    while left >= turns[at]:
        left -= turns[at]
        at += 1
    used = [0] * len(turns)
    told = []
    while many > 0:
        run = min(turns[at] - left, many)
        told.append(printed[at][used[at]:used[at] + run])
        used[at] += run
        many -= run
        left = 0
        at = (at + 1) % len(turns)
    return "".join(told)


def roll_then(work, first, many):
    ahead = work.press[2]
    of_first = min(max(ahead - first, 0), many)
    printed = rolled(work.within[0], first, of_first)
    return printed + rolled(work.within[1], max(first - ahead, 0), many - of_first)


def roll_dyed(work, first, many):
    dyes = {old: new for old, new in work.press[2]}
    return "".join([dyes.get(sign, sign) for sign in rolled(work.within[0], first, many)])


ROLLS = {
    "wheel": roll_wheel,
    "turned": roll_turned,
    "over": roll_over,
    "cut": roll_cut,
    "held": roll_held,
    "taking": roll_taking,
    "then": roll_then,
    "dyed": roll_dyed,
}
