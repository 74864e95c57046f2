"""Presses as texts, and presses read from texts."""

from rimprints.errors import NoName, NoText
from rimprints.figures import figures_of, is_figures, number_of
from rimprints.kinds import is_mark, is_mark_or_none, is_name, is_rim
from rimprints.presses import press_of

STAND_IN = ("wheel", ".")


class Names:
    """Names that may stand in a text for presses, and whether one was read that isn't there."""

    def __init__(self, presses):
        self.presses = presses
        self.missed = False

    def meant(self, name):
        """The press that a name means."""
        if name in self.presses:
            return self.presses[name]
        # Not refused at once: NoText goes ahead of NoName, and may be due further on in the text.
        self.missed = True
        return STAND_IN


def press_text(press):
    """The text of a press."""
    return written(press_of(press))


def read_press(text):
    """The press of a text."""
    if not isinstance(text, str):
        raise NoText("no text")
    return press_of(parsed(text, None))


def read_named(text, presses):
    """The press of a text in which the names of these presses may stand for them; NoName for another name."""
    names = Names(presses)
    thing = parsed(text, names)
    if names.missed:
        raise NoName("a name in the text isn't there")
    return press_of(thing)


def written(press):
    """The text of what surely is a press, made of tuples."""
    match press:
        case ("wheel", rim):
            return f"(wheel {rim})"
        case ("turned", inner, many):
            return f"(turned {written(inner)} {figures_of(many)})"
        case ("taking", pairs):
            return f"(taking {written_turns(pairs)})"
        case ("then", inner, many, other):
            return f"(then {written(inner)} {figures_of(many)} {written(other)})"
        case ("dyed", inner, pairs):
            return f"(dyed {written(inner)}{written_dyes(pairs)})"
        case (word, inner, other):
            return f"({word} {written(inner)} {written(other)})"


def written_turns(pairs):
    return " ".join([f"{written(inner)} {figures_of(many)}" for inner, many in pairs])


def written_dyes(pairs):
    return "".join([f" {old}{new}" for old, new in pairs])


def parsed(text, names):
    """What the text has the form of, a press but for what press_of refuses; without names where they are None."""
    # A list of the rows that are begun, not calls within calls: a text may be nested deeper than calls can be.
    # The first row takes what stands in no brackets: one whole press, or the text has no form.
    rows = [[]]
    for word in text.split(" "):
        if word.startswith("("):
            rows.append([word[1:]])
        else:
            put_word(rows, word, names)
    if len(rows) > 1 or len(rows[0]) > 1:
        raise NoText("a text is one whole press")
    return part_of(rows[0][0], names)


def put_word(rows, word, names):
    """Put a word into the last row, and close as many rows as brackets follow it."""
    bare = word.rstrip(")")
    rows[-1].append(bare)
    for _ in range(len(word) - len(bare)):
        if len(rows) == 1:
            raise NoText("a bracket closes nothing")
        done = formed(rows.pop(), names)
        rows[-1].append(done)


def formed(row, names):
    """What a row of words and of what stood in brackets within has the form of."""
    match row:
        case ["wheel", rim]:
            return ("wheel", checked_rim(rim))
        case ["turned", inner, many]:
            return ("turned", part_of(inner, names), read_number(many))
        case ["over" | "cut" | "held", inner, other]:
            return (row[0], part_of(inner, names), part_of(other, names))
        case ["taking", *turns]:
            return ("taking", read_turns(turns, names))
        case ["then", inner, many, other]:
            return ("then", part_of(inner, names), read_number(many), part_of(other, names))
        case ["dyed", inner, *dyes]:
            return ("dyed", part_of(inner, names), tuple([read_dye(dye) for dye in dyes]))
        case _:
            raise NoText("no text has this form")


def part_of(part, names):
    """What stands where a press may: what stood in brackets, or the press that a name means."""
    if not isinstance(part, str):
        return part
    if names is None or not is_name(part):
        raise NoText("a press stands in brackets")
    return names.meant(part)


def checked_rim(part):
    if not is_rim(part):
        raise NoText("a rim is of small letters and dots")
    return part


def read_number(part):
    if not isinstance(part, str) or not is_figures(part):
        raise NoText("a number is of figures, without noughts ahead")
    return number_of(part)


def read_turns(turns, names):
    """The pairs of a taking press, of presses and numbers by turns."""
    if len(turns) not in (4, 6, 8, 10, 12):
        raise NoText("two to six presses take turns")
    return tuple([(part_of(inner, names), read_number(many)) for inner, many in zip(turns[::2], turns[1::2])])


def read_dye(part):
    if not isinstance(part, str) or len(part) != 2:
        raise NoText("a dye is of two signs")
    if not is_mark(part[0]) or not is_mark_or_none(part[1]):
        raise NoText("a dye is a small letter and such or a dot")
    return (part[0], part[1])
