"""A desk: presses by names, put there and asked by the rows of a script."""

from rimprints.apart import first_apart
from rimprints.counts import how_many, nth
from rimprints.errors import NoForm, NoName, NoneYet
from rimprints.figures import figures_of, is_figures, number_of
from rimprints.kinds import is_mark, is_name
from rimprints.marks import mark_at, piece
from rimprints.presses import parts_in
from rimprints.rounds import plain
from rimprints.texts import press_text, read_named

# What stands in a row behind its first word.
FORMS = {
    "put": ("NAME", "TEXT"),
    "drop": ("NAME",),
    "at": ("NAME", "N"),
    "show": ("NAME", "N", "N"),
    "round": ("NAME",),
    "many": ("NAME", "L", "N"),
    "nth": ("NAME", "L", "N"),
    "apart": ("NAME", "NAME"),
    "text": ("NAME",),
    "names": (),
    "undo": (),
}


class Desk:
    """Presses by names, and for each put and drop that isn't undone what the name meant ahead of it."""

    def __init__(self):
        self.presses = {}
        self.earlier = []

    def say(self, row):
        """What is told to a row: a text."""
        match checked_words(row):
            case ["put", name, text]:
                return self.put(name, text)
            case ["drop", name]:
                return self.drop(name)
            case ["undo"]:
                return self.undo()
            case ["names"]:
                return " ".join(sorted(self.presses)) or "none"
            case ["apart", name, other]:
                return told_number(first_apart(self.named(name), self.named(other)))
            case [word, name, *more]:
                return told_of(self.named(name), word, more)

    def named(self, name):
        """The press that has this name."""
        if name not in self.presses:
            raise NoName("the name isn't there")
        return self.presses[name]

    def put(self, name, text):
        press = read_named(text, self.presses)
        self.earlier.append((name, self.presses.get(name)))
        self.presses[name] = press
        return figures_of(parts_in(press))

    def drop(self, name):
        self.earlier.append((name, self.named(name)))
        del self.presses[name]
        return "ok"

    def undo(self):
        if not self.earlier:
            raise NoneYet("nothing is left to undo")
        name, press = self.earlier.pop()
        if press is None:
            del self.presses[name]
        else:
            self.presses[name] = press
        return "ok"


def checked_words(row):
    """The words of a row, refused where they have no form."""
    if not isinstance(row, str):
        raise NoForm("a row is a text")
    words = words_of(row)
    form = FORMS.get(words[0])
    if form is None or len(form) != len(words) - 1:
        raise NoForm("no row has this form")
    for kind, word in zip(form, words[1:]):
        if not fits(kind, word):
            raise NoForm("a word of the row has no form")
    return words


def words_of(row):
    """The words of a row; a TEXT is one of them, whatever blanks are in it."""
    if row.startswith("put "):
        return row.split(" ", 2)
    return row.split(" ")


def fits(kind, word):
    """Whether a word may stand where one of that kind is due."""
    if kind == "NAME":
        return is_name(word)
    if kind == "N":
        return is_figures(word)
    if kind == "L":
        return word == "*" or is_mark(word)
    # Whether it is a press's text is asked only where it is read: that is NoText, not NoForm.
    return True


def told_of(press, word, more):
    """What is told of a press to a row, by its first word and those behind the name."""
    match [word, *more]:
        case ["at", place]:
            return mark_at(press, number_of(place))
        case ["show", first, many]:
            return piece(press, number_of(first), number_of(many)) or "none"
        case ["round"]:
            ahead, lap = plain(press)
            return (ahead or "-") + " " + lap
        case ["many", letter, place]:
            return figures_of(how_many(press, letter_of(letter), number_of(place)))
        case ["nth", letter, number]:
            return told_number(nth(press, letter_of(letter), number_of(number)))
        case ["text"]:
            return press_text(press)


def letter_of(word):
    """The letter that is asked for, None for any mark."""
    return None if word == "*" else word


def told_number(number):
    return "none" if number is None else figures_of(number)
