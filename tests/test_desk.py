"""Point 19: the rows of a script, told to a desk."""

import random
import unittest

from rimprints.apart import first_apart
from rimprints.counts import how_many, nth
from rimprints.desk import Desk
from rimprints.errors import NoForm, NoName, NoneYet, NoPress, NoText, PrintError, TooLong
from rimprints.marks import mark_at, piece
from rimprints.presses import parts_in
from rimprints.rounds import plain
from rimprints.texts import press_text, read_press
from tests.samples import EACH, HUGE
from tests.slow import short_presses

SOME = EACH + tuple(short_presses(101, 40))
LATE = "(then (wheel a) 100000 (wheel b))"
LATE_CAM = "(cut (wheel a) " + LATE + ")"
TWELVE = "(turned " * 11 + "(wheel ab)" + " 1)" * 11
# A row of each kind that asks and changes nothing; each is told of a desk that has a and b.
ASKING = ("at a 0", "show a 0 9", "round a", "many a * 9", "nth a b 9", "apart a b", "text a", "names")
# Words that are no NAME, and such that are no N; some are no single words.
NO_NAMES = ("A", "aB", "a1", "1", "abcdefghi", "*", ".", "-", "a.", "(a)", "(wheel", "a)", "?", "\u00e4", "a\n", "\t",
            "")
NO_NUMBERS = ("", "-1", "+1", "00", "01", "007", "-0", "a", "1a", "1.0", "1_0", "0x1", "*", ".", "\u0661", "\u00b2",
              "1\n", "1e3")
NO_LETTERS = ("", ".", "A", "ab", "**", "?", "1", "-", "none", "\u00e4", "a*", "#", "\n")


def desk_of(*rows):
    desk = Desk()
    for row in rows:
        desk.say(row)
    return desk


def two_on_it():
    return desk_of("put a (wheel ab.)", "put b (turned a 1)")


def all_of(desk):
    """All that is on a desk, by what it tells."""
    names = [] if desk.say("names") == "none" else desk.say("names").split(" ")
    return {name: desk.say("text " + name) for name in names}


class Case(unittest.TestCase):
    def tells(self, desk, *lines):
        """Each line is a row, and behind the sign what is told to it."""
        for line in lines:
            row, told = line.split(" = ")
            self.assertEqual(desk.say(row), told, row)

    def refused(self, error, desk, *rows):
        for row in rows:
            before = all_of(desk)
            with self.subTest(row=row), self.assertRaises(PrintError) as caught:
                desk.say(row)
            self.assertIs(type(caught.exception), error, row)
            self.assertEqual(all_of(desk), before)


class Rows(Case):
    def test_none_at_first(self):
        self.tells(Desk(), "names = none")
        self.refused(NoneYet, Desk(), "undo")

    def test_put(self):
        self.tells(Desk(), "put a (wheel ab.) = 1", "put b (over (wheel a) (wheel .)) = 3", f"put c {TWELVE} = 12",
                   "put d (taking (wheel a) 1 (turned (wheel b) 1) 2) = 4", "names = a b c d")

    def test_put_each_word(self):
        for press in SOME:
            desk = Desk()
            self.tells(desk, f"put x {press_text(press)} = {parts_in(press)}", f"text x = {press_text(press)}")

    def test_put_again_it_is_another_one(self):
        desk = two_on_it()
        self.tells(desk, "put a (over (wheel x) (wheel y)) = 3", "names = a b", "at a 0 = y",
                   "text b = (turned (wheel ab.) 1)", "put b (wheel z) = 1", "text b = (wheel z)")

    def test_drop(self):
        desk = two_on_it()
        self.tells(desk, "drop a = ok", "names = b", "text b = (turned (wheel ab.) 1)", "drop b = ok", "names = none",
                   "put a (wheel z) = 1", "text a = (wheel z)")

    def test_at(self):
        self.tells(two_on_it(), "at a 0 = a", "at a 1 = b", "at a 2 = .", "at a 3 = a", "at b 0 = b",
                   f"at a {HUGE} = a", "at a 100000000000000000000000000000 = b")

    def test_show(self):
        self.tells(two_on_it(), "show a 0 7 = ab.ab.a", "show a 1 1 = b", "show b 0 3 = b.a", "show a 2 2 = .a",
                   f"show a {HUGE} 4 = ab.a", "show a 0 2000 = " + ("ab." * 667)[:2000])

    def test_show_no_places(self):
        self.tells(two_on_it(), "show a 0 0 = none", "show b 17 0 = none",
                   f"show a {HUGE} 0 = none")

    def test_round(self):
        self.tells(two_on_it(), "round a = - ab.", "round b = - b.a", "put c (then (wheel xyz) 2 (wheel abab)) = 3",
                   "round c = xy ab", "put d (then (wheel ab) 4 (wheel ab)) = 3", "round d = - ab",
                   "put e (cut (wheel a) (wheel .)) = 3", "round e = - .", "put f (then (wheel .) 2 (wheel a)) = 3",
                   "round f = .. a")

    def test_many(self):
        self.tells(two_on_it(), "many a a 0 = 0", "many a a 1 = 1", "many a * 3 = 2", "many a * 4 = 3",
                   "many a z 9 = 0", f"many a * {HUGE} = " + "6" * 30,
                   "many a b 300000000000000000000000000000 = 100000000000000000000000000000")

    def test_nth(self):
        self.tells(two_on_it(), "nth a a 0 = 0", "nth a a 1 = 3", "nth a b 1 = 4", "nth a * 2 = 3", "nth a * 3 = 4",
                   f"nth a b {HUGE} = {3 * HUGE + 1}")
        self.tells(two_on_it(), "nth a z 0 = none", "put c (then (wheel a) 3 (wheel .)) = 3", "nth c * 2 = 2",
                   "nth c * 3 = none", "nth c a 3 = none", f"nth c a {HUGE} = none")

    def test_apart(self):
        self.tells(two_on_it(), "apart a b = 0", "apart b a = 0", "apart a a = none", "put c (turned b 2) = 3",
                   "apart a c = none", "apart c a = none", "put d (wheel abcab.) = 1", "apart a d = 2",
                   "put e (then a 72 d) = 3", "apart a e = 74", "apart e a = 74")

    def test_text(self):
        self.tells(two_on_it(), "text a = (wheel ab.)", "text b = (turned (wheel ab.) 1)",
                   "put c (dyed (wheel a) ab c.) = 2", "text c = (dyed (wheel a) ab c.)", "put d (dyed (wheel a)) = 2",
                   "text d = (dyed (wheel a))")

    def test_names_are_sorted(self):
        desk = desk_of("put b (wheel a)", "put aa (wheel a)", "put zzzzzzzz (wheel a)", "put a (wheel a)",
                       "put ab (wheel a)")
        self.tells(desk, "names = a aa ab b zzzzzzzz", "drop aa = ok", "names = a ab b zzzzzzzz", "put b (wheel z) = 1",
                   "names = a ab b zzzzzzzz")

    def test_names_of_one_to_eight_letters_be_they_words_of_rows(self):
        for name in ("a", "z", "abcdefgh", "zzzzzzzz", "put", "names", "undo", "wheel", "turned", "over", "none", "ok"):
            desk = Desk()
            self.tells(desk, f"put {name} (wheel ab) = 1", f"names = {name}", f"at {name} 1 = b",
                       f"show {name} 0 3 = aba", f"round {name} = - ab", f"many {name} * 3 = 3", f"nth {name} b 1 = 3",
                       f"text {name} = (wheel ab)", f"apart {name} {name} = none", f"put {name} {name} = 1",
                       f"drop {name} = ok", "names = none", "undo = ok", f"names = {name}")

    def test_asked_as_the_stages_tell(self):
        for at, press in enumerate(SOME):
            other = SOME[at - 1]
            desk = desk_of("put one " + press_text(press), "put other " + press_text(other))
            for place in (0, 1, 17, HUGE):
                printed = piece(press, place, 9)
                self.tells(desk, f"at one {place} = {mark_at(press, place)}", f"show one {place} 9 = {printed}")
                for letter, word in ((None, "*"), ("a", "a"), ("z", "z")):
                    number = nth(press, letter, place)
                    self.tells(desk, f"many one {word} {place} = {how_many(press, letter, place)}",
                               f"nth one {word} {place} = {'none' if number is None else number}")
            ahead, lap = plain(press)
            self.tells(desk, f"round one = {ahead if ahead else '-'} {lap}", f"text one = {press_text(press)}")
            place = first_apart(press, other)
            self.tells(desk, f"apart one other = {'none' if place is None else place}")

    def test_told_are_texts(self):
        desk = two_on_it()
        for row in ASKING + ("put c a", "drop c", "undo", "show a 0 0", "nth a z 0", "apart a a"):
            self.assertIs(type(desk.say(row)), str, row)

    def test_the_same_asked_again(self):
        desk = two_on_it()
        for row in ASKING:
            self.assertEqual(desk.say(row), desk.say(row), row)

    def test_numbers_of_thousands_of_figures(self):
        desk = two_on_it()
        noughts = "0" * 6000
        self.tells(desk, f"at a 3{noughts} = a", f"nth a a 1{noughts} = 3{noughts}",
                   f"many a a 3{noughts} = 1{noughts}",
                   f"put c (turned a 1{noughts}) = 2", f"text c = (turned (wheel ab.) 1{noughts})")

    def test_two_desks_have_nothing_in_common(self):
        one, other = two_on_it(), Desk()
        self.tells(other, "names = none", "put c (wheel z) = 1")
        self.tells(one, "names = a b", "undo = ok", "names = a")
        self.tells(other, "names = c", "undo = ok", "names = none")
        self.refused(NoneYet, other, "undo")
        self.tells(one, "undo = ok", "names = none")


class NamesInTexts(Case):
    def test_alone(self):
        desk = two_on_it()
        self.tells(desk, "put c a = 1", "text c = (wheel ab.)", "put d b = 2", "text d = (turned (wheel ab.) 1)",
                   "put d d = 2", "text d = (turned (wheel ab.) 1)")

    def test_wherever_a_press_may_stand(self):
        desk = desk_of("put a (wheel ab)", "put b (wheel z.)")
        self.tells(desk, "put c (turned a 3) = 2", "text c = (turned (wheel ab) 3)")
        for word in ("over", "cut", "held"):
            self.tells(desk, f"put c ({word} a b) = 3", f"text c = ({word} (wheel ab) (wheel z.))",
                       f"put c ({word} (wheel x) b) = 3", f"text c = ({word} (wheel x) (wheel z.))",
                       f"put c ({word} a (wheel x)) = 3", f"text c = ({word} (wheel ab) (wheel x))")
        self.tells(desk, "put c (taking a 1 b 2) = 3", "text c = (taking (wheel ab) 1 (wheel z.) 2)",
                   "put c (taking a 1 (wheel x) 2 a 3) = 4", "text c = (taking (wheel ab) 1 (wheel x) 2 (wheel ab) 3)",
                   "put c (then a 5 b) = 3", "text c = (then (wheel ab) 5 (wheel z.))", "put c (dyed a ab b.) = 2",
                   "text c = (dyed (wheel ab) ab b.)", "put c (dyed b) = 2", "text c = (dyed (wheel z.))",
                   "put c (turned (over (turned a 1) b) 2) = 5",
                   "text c = (turned (over (turned (wheel ab) 1) (wheel z.)) 2)")

    def test_it_means_its_press(self):
        for press in SOME:
            desk = desk_of("put x " + press_text(press), "put y (held x (turned x 1))")
            told = read_press(desk.say("text y"))
            self.assertEqual(told, ("held", press, ("turned", press, 1)))

    def test_a_rim_and_a_pair_are_no_names(self):
        desk = desk_of("put a (wheel z)", "put ab (wheel x)")
        self.tells(desk, "put c (wheel a) = 1", "text c = (wheel a)", "put c (dyed ab ab) = 2",
                   "text c = (dyed (wheel x) ab)", "put c (dyed a ab) = 2", "text c = (dyed (wheel z) ab)",
                   "put c (wheel wheel) = 1", "text c = (wheel wheel)")

    def test_names_that_are_words_of_presses(self):
        desk = desk_of("put wheel (wheel x)", "put over (turned wheel 1)", "put then over", "put taking (wheel t)")
        self.tells(desk, "put c (over over wheel) = 4", "text c = (over (turned (wheel x) 1) (wheel x))",
                   "put c (then then 3 taking) = 4", "text c = (then (turned (wheel x) 1) 3 (wheel t))",
                   "put c (taking taking 1 wheel 2) = 3", "text c = (taking (wheel t) 1 (wheel x) 2)")

    def test_put_by_its_own_name(self):
        desk = desk_of("put a (wheel ab)")
        self.tells(desk, "put a (turned a 1) = 2", "put a (turned a 1) = 3",
                   "text a = (turned (turned (wheel ab) 1) 1)", "put a (over a a) = 7", "undo = ok",
                   "text a = (turned (turned (wheel ab) 1) 1)", "undo = ok", "undo = ok", "text a = (wheel ab)")

    def test_what_it_meant_when_it_was_put(self):
        desk = two_on_it()
        for row in ("put a (wheel z)", "drop a", "undo", "undo", "drop a"):
            desk.say(row)
            self.tells(desk, "text b = (turned (wheel ab.) 1)", "at b 0 = b")

    def test_all_parts_are_counted(self):
        desk = desk_of("put a " + TWELVE, "put b (over (wheel a) (wheel b))", "put c (over b b)")
        self.tells(desk, "put d a = 12", "put e (taking b 1 b 2 b 3 (wheel a) 4) = 11", "put f (over c b) = 11",
                   "put g (turned f 1) = 12")
        self.refused(NoPress, desk, "put x (turned a 1)", "put x (over c c)", "put x (over a (wheel b))",
                     "put x (turned g 0)",
                     "put x (taking b 1 b 1 b 1 b 1)")

    def test_names_are_for_desks_alone(self):
        desk_of("put a (wheel z)")
        for text in ("a", "(turned a 1)", "(over a a)", "(taking a 1 a 1)", "(dyed a)"):
            with self.assertRaises(NoText):
                read_press(text)


class Undo(Case):
    def test_put(self):
        desk = two_on_it()
        self.tells(desk, "undo = ok", "names = a", "undo = ok", "names = none")
        self.refused(NoneYet, desk, "undo", "undo")

    def test_put_again(self):
        desk = desk_of("put a (wheel x)", "put a (wheel y)", "put a (wheel y)", "put a (wheel z)")
        for rim in "zyyx":
            self.tells(desk, f"text a = (wheel {rim})", "undo = ok")
        self.tells(desk, "names = none")
        self.refused(NoneYet, desk, "undo")

    def test_drop(self):
        desk = two_on_it()
        self.tells(desk, "drop a = ok", "undo = ok", "names = a b", "text a = (wheel ab.)", "undo = ok", "names = a")

    def test_drop_and_put_again(self):
        desk = desk_of("put a (wheel x)", "drop a", "put a (wheel y)", "drop a")
        self.tells(desk, "names = none", "undo = ok", "text a = (wheel y)", "undo = ok", "names = none", "undo = ok",
                   "text a = (wheel x)", "undo = ok", "names = none")
        self.refused(NoneYet, desk, "undo")

    def test_what_is_undone_is_not_undone_again(self):
        desk = desk_of("put a (wheel x)", "put b (wheel y)", "undo", "put c (wheel z)")
        self.tells(desk, "names = a c", "undo = ok", "names = a", "undo = ok", "names = none")
        self.refused(NoneYet, desk, "undo")

    def test_behind_each_row_that_asks(self):
        for row in ASKING + ("show a 0 0", "nth a z 0", "apart a a"):
            desk = two_on_it()
            desk.say("put a (wheel z)")
            desk.say(row)
            self.tells(desk, "undo = ok", "text a = (wheel ab.)", "names = a b")
            desk.say(row)
            self.tells(desk, "undo = ok", "names = a")

    def test_behind_a_refused_row(self):
        for row in ("", "put c", "put c ", "put c (wheel A)", "put a nosuch", "put a (turned " + TWELVE + " 1)",
                    "put a " + LATE_CAM,
                    "drop nosuch", "at nosuch 0", "at a 01", "many a . 1", "undo a", None):
            desk = two_on_it()
            desk.say("put c (wheel c)")
            desk.say("drop a")
            desk.say("put a (wheel z)")
            with self.assertRaises(PrintError):
                desk.say(row)
            self.tells(desk, "undo = ok", "names = b c", "undo = ok", "text a = (wheel ab.)", "undo = ok",
                       "names = a b")

    def test_a_refused_undo(self):
        desk = Desk()
        self.refused(NoneYet, desk, "undo")
        self.tells(desk, "put a (wheel x) = 1", "undo = ok", "names = none")
        self.refused(NoneYet, desk, "undo")
        self.tells(desk, "put a (wheel y) = 1", "text a = (wheel y)")

    def test_long_scripts(self):
        """Each undo brings back what was there ahead of the last change that isn't undone."""
        dice = random.Random(102)
        desk, past = Desk(), [{}]
        for _ in range(1500):
            name = dice.choice(("a", "b", "c", "dd"))
            move = dice.choice(("put", "put", "drop", "undo", "undo", "text"))
            if move == "put":
                text = dice.choice(("(wheel x)", "(turned (wheel y) 3)", "(wheel .z)"))
                desk.say(f"put {name} {text}")
                past.append({**past[-1], name: text})
            elif move == "drop" and name in past[-1]:
                self.tells(desk, f"drop {name} = ok")
                past.append({each: text for each, text in past[-1].items() if each != name})
            elif move == "undo" and len(past) > 1:
                self.tells(desk, "undo = ok")
                past.pop()
            elif move == "undo":
                self.refused(NoneYet, desk, "undo")
            elif name not in past[-1]:
                self.refused(NoName, desk, f"{move} {name}")
            self.assertEqual(all_of(desk), past[-1])


class NoForms(Case):
    def test_what_is_no_text(self):
        self.refused(NoForm, two_on_it(), None, 0, 1, True, False, b"names", ["names"], ("at", "a", "0"), {}, 1.0,
                     Desk())

    def test_no_row(self):
        self.refused(NoForm, two_on_it(), "", " ", "  ", "a", "wheel", "(wheel a)", "put", "drop", "at", "show",
                     "round", "many", "nth",
                     "apart", "text", "name", "namess", "Names", "NAMES", "redo", "undo undo", "get a", "a at 0", "*",
                     "none", "ok")

    def test_words_of_each_row(self):
        for row in ("Put a (wheel a)", "DROP a", "At a 0", "shows a 0 1", "rounds a", "Many a * 0", "nths a * 0",
                    "aparts a b",
                    "texts a", "name", "Undo", "put(a) (wheel a)", "drop: a"):
            self.refused(NoForm, two_on_it(), row)

    def test_too_few_words(self):
        self.refused(NoForm, two_on_it(), "put", "put a", "drop", "at", "at a", "show", "show a", "show a 0", "round",
                     "many",
                     "many a", "many a *", "many a 0", "nth", "nth a", "nth a *", "nth a 0", "apart", "apart a", "text")

    def test_too_many_words(self):
        self.refused(NoForm, two_on_it(), "drop a b", "drop a 0", "at a 0 0", "at a b 0", "show a 0 1 2", "round a b",
                     "many a * 0 0",
                     "many a a b 0", "nth a * 0 0", "apart a b a", "text a b", "names a", "names 0", "undo a", "undo 1")

    def test_empty_words(self):
        for row in ("drop a", "undo", *ASKING):
            self.refused(NoForm, two_on_it(), " " + row, row + " ", "  " + row, row + "  ")
            for at, sign in enumerate(row):
                if sign == " ":
                    self.refused(NoForm, two_on_it(), row[:at] + " " + row[at:])
        self.refused(NoForm, two_on_it(), " put c (wheel a)", "put  c (wheel a)", "put ", "put  ", "put   ",
                     "  put c (wheel a)")

    def test_other_blanks(self):
        for row in ("drop a", "undo", *ASKING):
            self.refused(NoForm, two_on_it(), row + "\n", "\n" + row, "\t" + row)
            if " " in row:
                self.refused(NoForm, two_on_it(), row.replace(" ", "\t"), row.replace(" ", "\n"), row.replace(" ",
                                                                                                              "\u00a0"))
        self.refused(NoForm, two_on_it(), "put\tc (wheel a)", "put c\t(wheel a)", "put\nc (wheel a)")

    def test_no_names(self):
        for wrong in NO_NAMES:
            self.refused(NoForm, two_on_it(), f"put {wrong} (wheel a)", f"drop {wrong}", f"at {wrong} 0",
                         f"show {wrong} 0 1",
                         f"round {wrong}", f"many {wrong} * 0", f"nth {wrong} * 0", f"apart {wrong} a",
                         f"apart a {wrong}",
                         f"text {wrong}")

    def test_no_numbers(self):
        for wrong in NO_NUMBERS:
            self.refused(NoForm, two_on_it(), f"at a {wrong}", f"show a {wrong} 1", f"show a 0 {wrong}",
                         f"many a * {wrong}",
                         f"many a a {wrong}", f"nth a * {wrong}", f"nth a b {wrong}")

    def test_no_letters(self):
        for wrong in NO_LETTERS:
            self.refused(NoForm, two_on_it(), f"many a {wrong} 0", f"nth a {wrong} 0", f"many a {wrong} 9",
                         f"nth a {wrong} 9")

    def test_an_empty_text_is_one(self):
        self.refused(NoText, two_on_it(), "put c ", "put a ")

    def test_empty_words_in_a_text(self):
        self.refused(NoText, two_on_it(), "put c  ", "put c   ", "put c  (wheel a)", "put c (wheel a) ",
                     "put c (wheel  a)", "put c  a",
                     "put c a ", "put c (turned  a 1)", "put c ( wheel a)", "put a  ")


class Order(Case):
    def test_no_text(self):
        self.refused(NoText, two_on_it(), "put c (wheel)", "put c (wheel A)", "put c wheel a", "put c a b", "put c (a)",
                     "put c ((wheel a))",
                     "put c (turned a 01)", "put c (turned a)", "put c (turned a b)", "put c (over a)",
                     "put c (over a b a)",
                     "put c (taking a 1)", "put c (taking a 1 b)", "put c (dyed a b)", "put c (dyed)", "put c A",
                     "put c a.", "put c 1",
                     "put c abcdefghi", "put c (turned abcdefghi 1)", "put c (over a A)", "put c (over a1 b)",
                     "put c a)", "put c (a",
                     "put c (turned a 1))", "put c (wheel (a))", "put c (turned (a) 1)", "put c (over a b", "put c a\n",
                     "put c .")

    def test_no_name(self):
        self.refused(NoName, two_on_it(), "drop c", "at c 0", "show c 0 1", "show c 0 0", "round c", "many c * 0",
                     "nth c a 0",
                     "apart c a", "apart a c", "apart c d", "apart c c", "text c", "at aa 0", "drop put", "at names 0")

    def test_no_name_in_a_text(self):
        self.refused(NoName, two_on_it(), "put c c", "put c d", "put a c", "put c (turned c 1)", "put c (turned d 1)",
                     "put c (over a d)",
                     "put c (over d a)", "put c (held d d)", "put c (cut (wheel a) d)", "put c (taking a 1 d 2)",
                     "put c (then d 1 a)",
                     "put c (then a 1 d)", "put c (dyed d ab)", "put c (dyed d)", "put c wheel", "put c abcdefgh",
                     "put c (turned (turned (over a (turned d 1)) 1) 1)")

    def test_a_name_that_was_dropped_or_undone(self):
        desk = two_on_it()
        desk.say("drop a")
        self.refused(NoName, desk, "at a 0", "drop a", "put c a", "put a (turned a 1)", "apart a b", "apart b a",
                     "text a")
        desk.say("undo")
        desk.say("undo")
        self.refused(NoName, desk, "text b", "put b b", "put c (over a b)", "drop b")

    def test_no_form_ahead_of_all(self):
        self.refused(NoForm, two_on_it(), "at c 01", "show c 0 -1", "many c . 0", "nth c * x", "apart c A", "apart A c",
                     "put A d",
                     "put A (wheel A)", "put abcdefghi ", "put abcdefghi " + LATE_CAM, "drop c d")
        self.refused(NoForm, Desk(), "undo ", "undo a", " undo", "Undo")

    def test_no_text_ahead_of_no_name(self):
        self.refused(NoText, two_on_it(), "put c (over d (wheel A))", "put c (over (wheel A) d)", "put c (turned d 01)",
                     "put c d e",
                     "put c d ", "put c (over d e", "put c (taking d 1)", "put c (turned d 1) 1", "put c (dyed d a)",
                     "put c (then d 1 (turned (over d (wheel a)) x))")

    def test_no_name_ahead_of_no_press(self):
        deep = "(turned " * 5000 + "d" + " 1)" * 5000
        self.refused(NoName, two_on_it(), "put c (taking d 0 a 1)", "put c (taking a 0 d 1)", "put c (dyed d ab ab)",
                     "put c (over (dyed a ab ac) d)", "put c (over d (taking a 0 a 0))",
                     "put c (turned " + TWELVE.replace("(wheel ab)", "d") + " 1)",
                     "put c " + deep)

    def test_no_name_ahead_of_too_long(self):
        desk = two_on_it()
        desk.say("put late " + LATE)
        self.refused(NoName, desk, f"put c (over {LATE_CAM} d)", f"put c (over d {LATE_CAM})",
                     "put c (over (cut a late) d)",
                     "apart late d", "apart d late")

    def test_no_press(self):
        self.refused(NoPress, two_on_it(), "put c (taking a 0 b 1)", "put c (dyed a ab ab)", "put c (dyed a ab ac)",
                     "put c (turned " + TWELVE + " 1)", "put c (over " + LATE_CAM + " (dyed a ab ab))",
                     "put c " + "(turned " * 5000 + "a" + " 1)" * 5000)

    def test_too_long(self):
        desk = two_on_it()
        self.tells(desk, f"put late {LATE} = 3", "put cam (turned late 1) = 4")
        self.refused(TooLong, desk, "put c " + LATE_CAM, "put c (cut a late)", "put c (held a late)",
                     "put a (over a (held late late))")
        self.refused(TooLong, desk, "round late", "many late * 0", "nth late a 0", "apart late a", "apart a late",
                     "apart late late")
        self.tells(desk, "at late 99999 = a", "at late 100000 = b", "show late 99999 2 = ab", f"text late = {LATE}",
                   "round cam = " + "a" * 99999 + " b", "put c (cut a cam) = 6")

    def test_what_is_refused_changes_nothing(self):
        desk = two_on_it()
        self.tells(desk, f"put late {LATE} = 3")
        before = {name: text for name, text in all_of(desk).items()}
        self.refused(NoForm, desk, "put a", "put A (wheel a)", "drop A", "undo b", "names a")
        self.refused(NoText, desk, "put a ", "put a (wheel A)", "put c (wheel a) ")
        self.refused(NoName, desk, "put a c", "put c c", "drop c")
        self.refused(NoPress, desk, "put a (turned " + TWELVE + " 1)", "put c (dyed a ab ab)")
        self.refused(TooLong, desk, "put a " + LATE_CAM, "put c " + LATE_CAM, "round late")
        self.assertEqual(all_of(desk), before)
        self.tells(desk, "undo = ok", "names = a b", "undo = ok", "names = a", "undo = ok", "names = none")
        self.refused(NoneYet, desk, "undo")
