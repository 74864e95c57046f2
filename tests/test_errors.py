"""Point 3: each refusal's own class, and who refuses with which."""

import unittest

from rimprints import errors
from rimprints.apart import first_apart, many_apart, nth_apart, order_matters, turning_of
from rimprints.counts import how_many, nth
from rimprints.desk import Desk
from rimprints.errors import NoForm, NoLetter, NoName, NoneYet, NoNumber, NoPlace, NoPress, NoSeen, NoText, PrintError
from rimprints.errors import TooLong
from rimprints.marks import mark_at, piece
from rimprints.one import least_spoilt, lengths_for, rim_for, spoilt_for
from rimprints.presses import press_of
from rimprints.rounds import press_by
from rimprints.several import known_from
from rimprints.texts import read_press
from rimprints.two import beneath, least_two, two_for
from tests.asked import ALL, OF_ANY, OF_SHORT, all_told
from tests.samples import A, AB, HUGE, as_lists, chain

NAMES = ("NoPress", "TooLong", "NoText", "NoPlace", "NoLetter", "NoNumber", "NoSeen", "NoForm", "NoName", "NoneYet")


class Classes(unittest.TestCase):
    def test_each_class_stands_straight_under_print_error(self):
        for name in NAMES:
            self.assertEqual(getattr(errors, name).__bases__, (PrintError,), name)

    def test_print_error_is_a_value_error(self):
        self.assertEqual(PrintError.__bases__, (ValueError,))

    def test_none_stands_under_another(self):
        classes = [getattr(errors, name) for name in NAMES]
        for one in classes:
            self.assertEqual([other for other in classes if issubclass(one, other)], [one])

    def test_each_can_be_raised_with_words(self):
        for name in NAMES:
            with self.assertRaises(PrintError) as caught:
                raise getattr(errors, name)("why")
            self.assertEqual(str(caught.exception), "why")

    def test_they_are_defined_in_their_file(self):
        for name in NAMES + ("PrintError",):
            self.assertEqual(getattr(errors, name).__module__, "rimprints.errors")


class Refusals(unittest.TestCase):
    def refused(self, error, call, *given):
        with self.assertRaises(PrintError) as caught:
            call(*given)
        self.assertIs(type(caught.exception), error)

    def test_no_press(self):
        for call in ALL:
            self.refused(NoPress, call, ("wheel", ""))
            self.refused(NoPress, call, chain(13))
        self.refused(NoPress, read_press, "(taking (wheel a) 0 (wheel b) 1)")
        self.refused(NoPress, press_by, "a", "")

    def test_too_long(self):
        long = ("cut", A, ("then", A, 100000, A))
        for call in ALL:
            self.refused(TooLong, call, long)
        self.refused(TooLong, read_press, "(cut (wheel a) (then (wheel a) 100000 (wheel a)))")

    def test_too_long_to_come_round(self):
        for late in (("then", A, 100000, A), ("then", A, HUGE, AB), ("taking", ((A, HUGE), (AB, 1)))):
            for call in OF_SHORT:
                self.refused(TooLong, call, late)
            for call in OF_ANY:
                self.assertEqual(call(as_lists(late)), call(late))

    def test_no_text(self):
        self.refused(NoText, read_press, "")
        self.refused(NoText, read_press, None)

    def test_no_place(self):
        for wrong in (-1, None, True, "a"):
            self.refused(NoPlace, mark_at, A, wrong)
            self.refused(NoPlace, piece, A, wrong, 1)
            self.refused(NoPlace, piece, A, 1, wrong)
            self.refused(NoPlace, how_many, A, None, wrong)
            self.refused(NoPlace, many_apart, A, AB, wrong)

    def test_no_letter(self):
        for wrong in (".", "A", "ab", "", 1):
            self.refused(NoLetter, how_many, A, wrong, 0)
            self.refused(NoLetter, nth, A, wrong, 0)

    def test_no_number(self):
        for wrong in (-1, None, True, "a"):
            self.refused(NoNumber, nth, A, None, wrong)
            self.refused(NoNumber, nth_apart, A, AB, wrong)

    def test_no_seen_and_no_number_of_a_seen_piece(self):
        for call in (lengths_for, rim_for, spoilt_for, least_spoilt, least_two):
            self.refused(NoSeen, call, "", 41)
            self.refused(NoNumber, call, "a", 41)
        self.refused(NoSeen, two_for, "A", 0, 0)
        self.refused(NoNumber, two_for, "a", 1, 0)
        self.refused(NoSeen, beneath, "", "")
        self.refused(NoPress, beneath, "a", "")
        self.refused(NoSeen, known_from, [], 11)
        self.refused(NoNumber, known_from, ["a"], 11)

    def test_of_a_desk(self):
        desk = Desk()
        desk.say("put late (then (wheel a) 100000 (wheel a))")
        for error, row in ((NoForm, "at"), (NoForm, None), (NoText, "put a "), (NoName, "at a 0"), (NoName, "put a a"),
                           (NoPress, "put a (dyed late ab ab)"), (TooLong, "put a (cut late late)"),
                           (TooLong, "round late")):
            self.refused(error, desk.say, row)
        desk.say("undo")
        self.refused(NoneYet, desk.say, "undo")

    def test_a_refusal_changes_nothing(self):
        handed = ["over", ["wheel", "a"], ["turned", ["wheel", "b"], -1]]
        for call in ALL:
            self.refused(NoPress, call, handed)
            self.assertEqual(handed, ["over", ["wheel", "a"], ["turned", ["wheel", "b"], -1]])
        self.assertEqual(press_of(["wheel", "a"]), ("wheel", "a"))

    def test_the_same_is_told_behind_a_refusal(self):
        press = ["then", ["wheel", "ab"], 3, ["held", ["wheel", "xyz"], ["wheel", "a."]]]
        kept = as_lists(press_of(press))
        told = all_told(press)
        self.refused(NoPlace, piece, press, 0, -1)
        self.refused(NoLetter, how_many, press, "?", 0)
        self.refused(NoNumber, nth, press, "a", -1)
        self.refused(NoPlace, many_apart, press, A, -1)
        self.refused(TooLong, first_apart, press, ("then", A, 100000, A))
        self.refused(TooLong, turning_of, ("then", A, 100000, A), press)
        self.refused(TooLong, order_matters, press, ("then", A, 99999, A))
        self.assertEqual(press, kept)
        self.assertEqual(all_told(press), told)
