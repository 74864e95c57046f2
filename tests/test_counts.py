"""Point 11: how many places ahead of a place have a letter, and which is the so-manieth."""

import unittest

from rimprints.counts import how_many, nth
from rimprints.errors import NoLetter, NoNumber, NoPlace, NoPress, TooLong
from rimprints.marks import mark_at
from rimprints.rounds import plain, press_by, round_of
from tests.rolling import strip
from tests.samples import A, AB, EACH, GAP, HUGE, chain
from tests.slow import far_count, far_mark, has, short_presses

LETTERS = (None, "a", "b", "c", "z")
SOME = EACH + tuple(short_presses(41, 120) + short_presses(42, 60, 12, 9))
LATE = ("then", ("wheel", "abcc."), 8, ("wheel", "a.b"))
TOO_LATE = ("then", A, 100000, A)
TOO_LATE_CAM = ("cut", A, TOO_LATE)


class Case(unittest.TestCase):
    def refused(self, error, call, *given):
        with self.subTest(call=call, given=given[1:]), self.assertRaises(error):
            call(*given)


class Counts(Case):
    def test_by_hand(self):
        self.assertEqual(strip(LATE, 14), "abcc.abca.ba.b")
        self.assertEqual([how_many(LATE, "a", place) for place in range(15)], [0, 1, 1, 1, 1, 1, 2, 2, 2, 3, 3, 3, 4, 4, 4])
        self.assertEqual([how_many(LATE, "c", place) for place in (0, 2, 3, 4, 7, 8, 9, HUGE)], [0, 0, 1, 2, 2, 3, 3, 3])
        self.assertEqual([how_many(LATE, None, place) for place in (0, 4, 5, 8, 9, 10, 11)], [0, 4, 4, 7, 8, 8, 9])
        self.assertEqual([how_many(LATE, "x", place) for place in (0, 5, 14, HUGE)], [0, 0, 0, 0])

    def test_as_counted_on_the_strip(self):
        for press in SOME:
            printed = strip(press, 80)
            for letter in LETTERS:
                told = [how_many(press, letter, place) for place in (0, 1, 2, 5, 23, 79)]
                counted = [sum(has(sign, letter) for sign in printed[:place]) for place in (0, 1, 2, 5, 23, 79)]
                self.assertEqual(told, counted, press)

    def test_far(self):
        for press in SOME:
            for letter in LETTERS:
                for place in (HUGE, 10 ** 29 + 3):
                    self.assertEqual(how_many(press, letter, place), far_count(press, letter, place), press)

    def test_thirty_figures_by_hand(self):
        self.assertEqual(how_many(A, "a", HUGE), HUGE)
        self.assertEqual(how_many(AB, "a", HUGE), HUGE // 2 + 1)
        self.assertEqual(how_many(AB, "b", HUGE), HUGE // 2)
        self.assertEqual(how_many(AB, None, HUGE), HUGE)
        self.assertEqual(how_many(("wheel", "a..b..."), None, 7 * 10 ** 28 + 3), 2 * 10 ** 28 + 1)
        self.assertEqual(how_many(GAP, None, HUGE), 0)
        self.assertEqual(how_many(("then", A, 5, GAP), "a", HUGE), 5)
        self.assertEqual(how_many(("then", GAP, 5, A), "a", HUGE), HUGE - 5)

    def test_all_letters_are_any_mark(self):
        for press in SOME:
            for place in (7, 40, HUGE):
                each = [how_many(press, letter, place) for letter in "abcdefghijklmnopqrstuvwxyz"]
                self.assertEqual(sum(each), how_many(press, None, place), press)

    def test_place_by_place(self):
        for press in SOME[:40]:
            for letter in LETTERS:
                for place in (0, 6, HUGE):
                    step = how_many(press, letter, place + 1) - how_many(press, letter, place)
                    self.assertEqual(step, has(mark_at(press, place), letter), press)


class Places(Case):
    def test_by_hand(self):
        self.assertEqual([nth(LATE, "a", number) for number in range(5)], [0, 5, 8, 11, 14])
        self.assertEqual([nth(LATE, "c", number) for number in range(5)], [2, 3, 7, None, None])
        self.assertEqual([nth(LATE, None, number) for number in range(9)], [0, 1, 2, 3, 5, 6, 7, 8, 10])
        self.assertEqual([nth(LATE, "x", number) for number in (0, 1, HUGE)], [None, None, None])

    def test_as_found_on_the_strip(self):
        for press in SOME:
            printed = strip(press, 100)
            for letter in LETTERS:
                places = [place for place, sign in enumerate(printed) if has(sign, letter)]
                told = [nth(press, letter, number) for number in range(min(12, len(places)))]
                self.assertEqual(told, places[:12], press)
                for number in (20, 50):
                    if number < len(places):
                        self.assertEqual(nth(press, letter, number), places[number], press)

    def test_it_fits_the_counts_and_the_marks(self):
        for press in SOME:
            for letter in LETTERS:
                for number in (0, 3, HUGE):
                    place = nth(press, letter, number)
                    if place is None:
                        self.assertLessEqual(how_many(press, letter, 10 ** 33), number, press)
                    else:
                        self.assertEqual(how_many(press, letter, place), number, press)
                        self.assertTrue(has(far_mark(press, place), letter), press)

    def test_thirty_figures_by_hand(self):
        self.assertEqual(nth(A, "a", HUGE), HUGE)
        self.assertEqual(nth(AB, "b", HUGE), 2 * HUGE + 1)
        self.assertEqual(nth(("wheel", "a..b..."), None, 2 * 10 ** 29 + 1), 7 * 10 ** 29 + 3)
        self.assertEqual(nth(("then", ("wheel", "abc"), 4, ("wheel", "..a")), "a", HUGE), 4 + 3 * (HUGE - 2) + 2)

    def test_only_ahead_of_the_round(self):
        for ahead, places in ((GAP, []), (A, list(range(6))), (("wheel", "a..b"), [0, 4]), (("wheel", "....a"), [4])):
            press = ("then", ahead, 6, ("wheel", "b.c"))
            self.assertEqual([nth(press, "a", number) for number in range(len(places))], places)
            for number in (len(places), len(places) + 1, HUGE):
                self.assertIsNone(nth(press, "a", number))

    def test_any_mark_only_ahead(self):
        press = ("then", ("wheel", "x.yz"), 99, GAP)
        self.assertEqual(round_of(press), (99, 1))
        self.assertEqual([nth(press, None, number) for number in (0, 1, 2, 3, 73)], [0, 2, 3, 4, 98])
        self.assertEqual([nth(press, None, number) for number in (74, 75, HUGE)], [None, None, None])

    def test_the_press_told_plainly(self):
        for press in SOME[:50]:
            told = press_by(*plain(press))
            for letter in LETTERS:
                self.assertEqual(nth(told, letter, HUGE), nth(press, letter, HUGE))
                self.assertEqual(nth(told, letter, 1), nth(press, letter, 1))
                self.assertEqual(how_many(told, letter, HUGE), how_many(press, letter, HUGE))

    def test_kinds(self):
        for press in SOME:
            self.assertIs(type(how_many(press, None, 9)), int)
            self.assertIn(type(nth(press, "a", 9)), (int, type(None)))


class Refused(Case):
    def test_no_letter(self):
        for wrong in (".", "A", "Z", "ab", "", "?", "*", "1", " ", "`", "{", "\u00e4", 0, 1, True, False, b"a", ("a",), ["a"], (), A):
            self.refused(NoLetter, how_many, A, wrong, 0)
            self.refused(NoLetter, nth, A, wrong, 0)

    def test_each_letter_is_one(self):
        for letter in "abcdefghijklmnopqrstuvwxyz":
            self.assertEqual(how_many(("wheel", "." + letter), letter, 9), 4)
            self.assertEqual(nth(("wheel", "." + letter), letter, 9), 19)

    def test_no_place_and_no_number(self):
        for wrong in (-1, -HUGE, True, False, "0", "a", "", None, (0,), [1], 1.0):
            for letter in ("a", None):
                self.refused(NoPlace, how_many, A, letter, wrong)
                self.refused(NoNumber, nth, A, letter, wrong)

    def test_too_long(self):
        for late in (TOO_LATE, TOO_LATE_CAM, ("wheel", "a" * 100001), ("held", A, TOO_LATE)):
            self.refused(TooLong, how_many, late, "a", 0)
            self.refused(TooLong, nth, late, None, 0)
        self.assertEqual(how_many(("then", A, 99999, A), "a", HUGE), HUGE)
        self.assertEqual(nth(("wheel", "a" * 100000), None, HUGE), HUGE)

    def test_the_first_of_them(self):
        for wrong in (None, ("wheel", ""), ("over", TOO_LATE_CAM, ("wheel", "A")), chain(13)):
            for letter in ("a", None, "."):
                for amount in (0, -1):
                    self.refused(NoPress, how_many, wrong, letter, amount)
                    self.refused(NoPress, nth, wrong, letter, amount)
        for late in (TOO_LATE, TOO_LATE_CAM):
            for letter in ("a", None, "."):
                for amount in (0, -1):
                    self.refused(TooLong, how_many, late, letter, amount)
                    self.refused(TooLong, nth, late, letter, amount)
        self.refused(NoLetter, how_many, A, ".", -1)
        self.refused(NoLetter, nth, A, ".", -1)
