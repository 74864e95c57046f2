"""Point 12: where two presses part."""

import unittest

from rimprints.apart import first_apart, many_apart, nth_apart
from rimprints.errors import NoNumber, NoPlace, NoPress, TooLong
from rimprints.marks import mark_at
from rimprints.rounds import plain, press_by, round_of
from tests.samples import A, AB, EACH, GAP, HUGE, chain
from tests.slow import far_mark, short_presses, unlike_places

ABC = ("wheel", "abc")
B = ("wheel", "b")
SOME = EACH + tuple(short_presses(51, 70, longest=100) + short_presses(52, 40, 9, 9, 100))
PAIRS = list(zip(SOME, SOME[1:])) + list(zip(SOME, SOME[7:]))
TOO_LATE = ("then", A, 100000, A)
TOO_LATE_CAM = ("cut", A, TOO_LATE)
# Alike for ever, by other words.
SAME = (
    (A, ("wheel", "aaa")),
    (AB, ("wheel", "ababab")),
    (AB, ("turned", ("wheel", "ba"), 1)),
    (ABC, ("turned", ABC, 3 * HUGE)),
    (ABC, ("over", ("wheel", "xyz"), ABC)),
    (ABC, ("cut", ABC, A)),
    (ABC, ("held", ABC, A)),
    (GAP, ("held", ABC, GAP)),
    (("cut", ABC, GAP), ("dyed", A, (("a", "."),))),
    (ABC, ("then", ABC, 5, ("turned", ABC, 2))),
    (("wheel", "aab"), ("taking", ((A, 2), (B, 1)))),
    (("then", AB, 7, ABC), ("then", AB, 7, ("wheel", "abcabc"))),
    (("then", A, 3, ("wheel", "ba")), ("then", ("wheel", "aaab"), 4, AB)),
    (("then", AB, 2, ("wheel", "cd")), ("then", ("wheel", "abcd"), 4, ("wheel", "cdcd"))),
    (AB, ("dyed", ("wheel", "ba"), (("a", "b"), ("b", "a")))),
    (("cut", AB, ("wheel", "x.")), ("over", ("wheel", "a."), GAP)),
)


class Case(unittest.TestCase):
    def refused(self, error, call, *given):
        with self.subTest(call=call), self.assertRaises(error):
            call(*given)

    def parts(self, one, other, place):
        """Either way round the first place is this one."""
        with self.subTest(one=one, other=other):
            self.assertEqual(first_apart(one, other), place)
            self.assertEqual(first_apart(other, one), place)


class Alike(Case):
    def test_by_other_words(self):
        for one, other in SAME:
            self.parts(one, other, None)
            for place in (0, 1, 50, HUGE):
                self.assertEqual(many_apart(one, other, place), 0)
            for number in (0, 1, HUGE):
                self.assertIsNone(nth_apart(one, other, number))

    def test_with_itself_and_told_plainly(self):
        for press in SOME:
            self.parts(press, press, None)
            self.parts(press, press_by(*plain(press)), None)
            self.parts(press, ("dyed", ("turned", press, 0), ()), None)


class First(Case):
    def test_at_their_first_place(self):
        self.parts(A, B, 0)
        self.parts(AB, ("wheel", "bb"), 0)
        self.parts(A, GAP, 0)

    def test_late(self):
        self.parts(("wheel", "a" * 59 + "b"), A, 59)
        self.parts(("wheel", "aab"), ("wheel", "aabaac"), 5)
        self.parts(("then", A, 99998, AB), A, 99999)
        self.parts(("then", AB, 50000, AB), ("then", AB, 50001, ("wheel", "ba")), None)
        self.parts(("then", AB, 50000, AB), ("then", AB, 50002, ("wheel", "ba")), 50002)

    def test_ahead_of_ones_round(self):
        self.parts(("then", ("wheel", "abx"), 3, AB), ("then", ("wheel", "aby"), 3, AB), 2)
        self.parts(("then", ("wheel", "xbab"), 4, AB), AB, 0)
        self.parts(("then", ("wheel", "abxb"), 4, AB), AB, 2)

    def test_by_no_mark_alone(self):
        self.parts(("wheel", "ab."), ABC, 2)
        self.parts(("then", A, 9, GAP), A, 9)
        self.parts(("wheel", "a" * 58 + "."), A, 58)
        self.parts(GAP, ("wheel", "....a"), 4)

    def test_of_long_lengths(self):
        one = ("wheel", ("a" * 50 + "b") * 7 + "a" * 20)
        other = ("wheel", ("a" * 50 + "b") * 9 + "a" * 20)
        self.parts(one, other, 407)
        self.parts(("wheel", "a" * 40000 + "b"), ("wheel", "a" * 40001 + "b"), 40000)
        left = ("wheel", "a" * 30000 + "b")
        self.parts(left, ("then", left, 60002, ("wheel", "a" * 30000 + "c")), 90002)

    def test_apart_as_late_as_two_lengths_allow(self):
        """Words of Fibonacci's are alike as long as two lengths can be without being one."""
        short, long = "a", "ab"
        while len(long) < 5000:
            short, long = long, long + short
        alike = len(short) + len(long) - 2
        self.parts(("wheel", short), ("wheel", long), alike)
        self.assertEqual((short * 3)[:alike], (long * 2)[:alike])

    def test_the_least_of_all_lengths(self):
        for p in range(1, 7):
            for q in range(1, 7):
                for late in range(p + q):
                    one, other = "a" * (p - 1) + "b", "a" * (q - 1) + "b"
                    press = ("then", ("wheel", one), late, ("wheel", other))
                    places = unlike_places(press, ("wheel", one), late + 60)
                    self.parts(press, ("wheel", one), places[0] if places else None)

    def test_as_compared_on_the_strips(self):
        for one, other in PAIRS:
            places = unlike_places(one, other, 2 * 300)
            self.parts(one, other, places[0] if places else None)


class Counts(Case):
    def fits(self, one, other):
        begin = max(round_of(one)[0], round_of(other)[0])
        length = round_of(one)[1] * round_of(other)[1]
        many = min(begin + 2 * length + 9, 1500)
        places = unlike_places(one, other, many)
        for place in (0, 1, 2, 9, many // 2, many):
            self.assertEqual(many_apart(one, other, place), sum(at < place for at in places))
        for number in (0, 1, 2, 9, len(places) // 2, len(places) - 1):
            if 0 <= number < len(places):
                self.assertEqual(nth_apart(one, other, number), places[number])

    def test_as_counted_on_the_strips(self):
        for one, other in PAIRS:
            self.fits(one, other)

    def test_they_fit_each_other(self):
        for one, other in PAIRS:
            for number in (0, 5, HUGE):
                place = nth_apart(one, other, number)
                if place is None:
                    self.assertLessEqual(many_apart(one, other, 10 ** 36), number)
                else:
                    self.assertEqual(many_apart(one, other, place), number)
                    self.assertEqual(many_apart(one, other, place + 1), number + 1)
                    self.assertNotEqual(far_mark(one, place), far_mark(other, place))
            self.assertEqual(nth_apart(one, other, 0), first_apart(one, other))

    def test_far_counts(self):
        for one, other in PAIRS[:60]:
            for place in (HUGE, 10 ** 29):
                step = many_apart(one, other, place + 1) - many_apart(one, other, place)
                self.assertEqual(step, mark_at(one, place) != mark_at(other, place))

    def test_thirty_figures_by_hand(self):
        self.assertEqual(many_apart(A, B, HUGE), HUGE)
        self.assertEqual(many_apart(A, AB, HUGE), HUGE // 2)
        self.assertEqual(nth_apart(A, AB, HUGE), 2 * HUGE + 1)
        self.assertEqual(many_apart(AB, ABC, 6 * 10 ** 28 + 3), 4 * 10 ** 28 + 1)
        self.assertEqual(nth_apart(AB, ABC, 4 * 10 ** 28), 6 * 10 ** 28 + 2)
        self.assertEqual(many_apart(("then", A, 3, GAP), GAP, HUGE), 3)

    def test_only_ahead_of_the_rounds(self):
        one = ("then", ("wheel", "xbay"), 4, AB)
        self.assertEqual([nth_apart(one, AB, number) for number in (0, 1, 2, 3, HUGE)], [0, 3, None, None, None])
        self.assertEqual([many_apart(one, AB, place) for place in (0, 1, 3, 4, 5, HUGE)], [0, 1, 1, 2, 2, 2])
        self.assertEqual([nth_apart(AB, one, number) for number in (0, 1, 2)], [0, 3, None])

    def test_one_late_and_the_other_not(self):
        one = ("then", GAP, 5, A)
        self.assertEqual([many_apart(one, A, place) for place in (4, 5, 6, HUGE)], [4, 5, 5, 5])
        self.assertEqual([many_apart(one, GAP, place) for place in (4, 5, 6, HUGE)], [0, 0, 1, HUGE - 5])
        self.assertEqual(nth_apart(GAP, one, HUGE), HUGE + 5)

    def test_no_mark_as_any_other(self):
        self.assertEqual(many_apart(("wheel", "a."), A, 9), 4)
        self.assertEqual(nth_apart(("wheel", "a."), A, 4), 9)
        self.assertEqual(many_apart(("wheel", "a."), ("wheel", ".a"), 9), 9)

    def test_kinds(self):
        for one, other in PAIRS[:40]:
            self.assertIs(type(many_apart(one, other, 9)), int)
            self.assertIn(type(nth_apart(one, other, 9)), (int, type(None)))
            self.assertIn(type(first_apart(one, other)), (int, type(None)))


class Refused(Case):
    CALLS = ((first_apart, ()), (many_apart, (0,)), (nth_apart, (0,)), (many_apart, (-1,)), (nth_apart, (None,)))

    def test_no_press(self):
        for call, more in self.CALLS:
            for wrong in (None, "a", ("wheel", ""), ("turned", A, True), chain(13)):
                self.refused(NoPress, call, wrong, A, *more)
                self.refused(NoPress, call, A, wrong, *more)
                self.refused(NoPress, call, wrong, TOO_LATE, *more)
                self.refused(NoPress, call, wrong, TOO_LATE_CAM, *more)

    def test_too_long(self):
        for call, more in self.CALLS:
            for late in (TOO_LATE, TOO_LATE_CAM, ("wheel", "a" * 100001), ("held", A, TOO_LATE)):
                self.refused(TooLong, call, late, A, *more)
                self.refused(TooLong, call, A, late, *more)
                self.refused(TooLong, call, late, ("wheel", ""), *more)
                self.refused(TooLong, call, late, None, *more)

    def test_no_place_and_no_number(self):
        for wrong in (-1, -HUGE, True, False, "0", "", None, (0,), 1.0):
            self.refused(NoPlace, many_apart, A, AB, wrong)
            self.refused(NoNumber, nth_apart, A, AB, wrong)

    def test_too_long_together_at_last(self):
        for one, other, fits in (
                (("wheel", "a" * 315 + "b"), ("wheel", "a" * 316 + "b"), False),
                (("wheel", "a" * 249 + "b"), ("wheel", "a" * 399 + "b"), True),
                (("then", A, 50000, ("wheel", "a" * 99 + "b")), ("wheel", "a" * 499 + "b"), True),
                (("then", A, 99500, B), ("wheel", "a" * 499 + "b"), True),
                (("then", A, 99501, B), ("wheel", "a" * 499 + "b"), False),
                (("then", A, 99501, B), ("then", A, 99501, ("wheel", "b" * 498 + "a")), True),
                (("then", A, 99501, ("wheel", "ab")), ("then", A, 99501, ("wheel", "b" * 498 + "a")), False),
                (("then", A, 99500, B), ("then", A, 99500, ("wheel", "b" * 499 + "a")), True)):
            for left, right in ((one, other), (other, one)):
                if fits:
                    self.assertEqual(nth_apart(left, right, 0), first_apart(left, right))
                    self.assertEqual(many_apart(left, right, first_apart(left, right) + 1), 1)
                else:
                    self.refused(TooLong, many_apart, left, right, 0)
                    self.refused(TooLong, nth_apart, left, right, 0)
                    self.refused(NoPlace, many_apart, left, right, -1)
                    self.refused(NoNumber, nth_apart, left, right, -1)
                    self.assertIsNotNone(first_apart(left, right))

    def test_just_too_long_and_just_not(self):
        for one, other, length in ((250, 400, 2000), (10, 10000, 10000), (100, 150, 300), (7, 11, 77)):
            begin = 100000 - length
            left = ("then", B, begin, ("wheel", "a" * (one - 1) + "c"))
            right = ("wheel", "a" * (other - 1) + "b")
            self.assertEqual(round_of(left), (begin, one))
            self.assertEqual(nth_apart(left, right, 0), 0)
            self.assertEqual(many_apart(right, left, 1), 1)
            left = ("then", B, begin + 1, ("wheel", "a" * (one - 1) + "c"))
            self.assertEqual(first_apart(left, right), 0)
            self.refused(TooLong, nth_apart, left, right, 0)
            self.refused(TooLong, many_apart, right, left, 1)

    def test_by_the_least_rounds(self):
        one = ("wheel", "a" * 317)
        other = ("wheel", "ab" * 158)
        self.assertEqual((round_of(one), round_of(other)), ((0, 1), (0, 2)))
        self.assertEqual(nth_apart(one, other, 3), 7)
        late = ("then", A, 99999, A)
        self.assertEqual(many_apart(late, ("wheel", "ab"), HUGE), HUGE // 2)
