"""Point 13: by how many turned on one press is another, and whether it matters which one lies over the other."""

import unittest

from rimprints.apart import first_apart, order_matters, turning_of
from rimprints.errors import NoPress, TooLong
from rimprints.presses import parts_in, reckoned
from rimprints.rounds import round_of
from tests.samples import A, AB, EACH, GAP, HUGE, chain
from tests.slow import over_each_other, short_presses, unlike_places

ABC = ("wheel", "abc")
B = ("wheel", "b")
SOME = EACH + tuple(short_presses(61, 80, longest=60) + short_presses(62, 30, 9, 9, 60))
PAIRS = list(zip(SOME, SOME[1:])) + list(zip(SOME, SOME[7:]))
TOO_LATE = ("then", A, 100000, A)
TOO_LATE_CAM = ("cut", A, TOO_LATE)


class Case(unittest.TestCase):
    def refused(self, error, call, *given):
        with self.subTest(call=call), self.assertRaises(error):
            call(*given)


class Turnings(Case):
    def test_by_hand(self):
        self.assertEqual(turning_of(ABC, ABC), 0)
        self.assertEqual(turning_of(ABC, ("wheel", "bca")), 1)
        self.assertEqual(turning_of(ABC, ("wheel", "cab")), 2)
        self.assertEqual(turning_of(("wheel", "bca"), ABC), 2)
        self.assertEqual(turning_of(("wheel", "abcabc"), ("wheel", "cab")), 2)
        self.assertEqual(turning_of(A, ("wheel", "aaaa")), 0)

    def test_none(self):
        for one, other in ((ABC, ("wheel", "acb")), (ABC, AB), (AB, ABC), (A, B), (A, GAP), (("wheel", "aab"), AB),
                           (("wheel", "aab"), ("wheel", "ab")), (AB, ("wheel", "abb")), (A, AB), (AB, A)):
            self.assertIsNone(turning_of(one, other))

    def test_the_one_late(self):
        one = ("then", ("wheel", "xyz"), 5, ABC)
        self.assertEqual(turning_of(one, ABC), 5)
        self.assertEqual(turning_of(one, ("wheel", "bca")), 6)
        self.assertEqual(turning_of(one, ("wheel", "cab")), 7)
        self.assertIsNone(turning_of(one, ("wheel", "xyz")))
        self.assertEqual(turning_of(("then", ("wheel", "xbc"), 3, ABC), ABC), 3)
        self.assertEqual(turning_of(("then", ("wheel", "xbc"), 3, ABC), ("wheel", "bca")), 1)

    def test_the_other_late(self):
        other = ("then", ("wheel", "xyz"), 5, ABC)
        self.assertIsNone(turning_of(ABC, other))
        self.assertIsNone(turning_of(("then", ("wheel", "yz"), 4, ABC), other))
        self.assertEqual(turning_of(other, other), 0)

    def test_both_late(self):
        one = ("then", ("wheel", "xyz"), 8, ABC)
        for many in range(9):
            self.assertEqual(turning_of(one, ("turned", one, many)), many)
        for many in (9, 10):
            self.assertEqual(turning_of(one, ("turned", one, many)), many)
        self.assertEqual(turning_of(one, ("turned", one, 11)), 8)
        self.assertIsNone(turning_of(one, ("then", ("wheel", "xyy"), 8, ABC)))
        self.assertIsNone(turning_of(one, ("then", ("wheel", "yy"), 2, ABC)))
        self.assertIsNone(turning_of(one, ("then", ("wheel", "yz"), 2, ("wheel", "acb"))))
        self.assertIsNone(turning_of(one, ("then", ("wheel", "zx"), 2, ABC)))
        self.assertEqual(turning_of(one, ("then", ("wheel", "xy"), 2, ABC)), 6)

    def test_by_thirty_figures(self):
        self.assertEqual(turning_of(ABC, ("turned", ABC, HUGE + 1)), 1)
        self.assertEqual(turning_of(("turned", ABC, HUGE + 1), ABC), 2)
        late = ("turned", ("then", A, HUGE, ABC), HUGE - 7)
        self.assertEqual(turning_of(late, ABC), 7)

    def test_the_least_that_does(self):
        for press in SOME:
            for many in (0, 1, 2, 3, 7, 40):
                other = ("turned", press, many)
                told = turning_of(press, other)
                self.assertLessEqual(told, many)
                self.assertIsNone(first_apart(("turned", press, told), other))
                for lesser in range(told):
                    self.assertIsNotNone(first_apart(("turned", press, lesser), other))

    def test_of_some_pairs(self):
        found = 0
        late = [(("then", one, 3, other), other) for one, other in PAIRS if parts_in(one) + parts_in(other) < 12]
        for one, other in PAIRS + late:
            told = turning_of(one, other)
            begin, length = round_of(one)
            slow = [many for many in range(begin + length + 2)
                    if not unlike_places(("turned", one, many), other, 150)]
            self.assertEqual(told, slow[0] if slow else None, (one, other))
            found += told is not None
        self.assertGreater(found, 30)

    def test_refused(self):
        for wrong in (None, "a", ("wheel", ""), ("turned", A, True), chain(13)):
            self.refused(NoPress, turning_of, wrong, A)
            self.refused(NoPress, turning_of, A, wrong)
            self.refused(NoPress, turning_of, wrong, TOO_LATE)
        for late in (TOO_LATE, TOO_LATE_CAM, ("wheel", "a" * 100001)):
            self.refused(TooLong, turning_of, late, A)
            self.refused(TooLong, turning_of, A, late)
            self.refused(TooLong, turning_of, late, ("wheel", ""))

    def test_never_too_long_together(self):
        one, other = ("wheel", "a" * 60000 + "b"), ("wheel", "a" * 70000 + "b")
        self.assertIsNone(turning_of(one, other))
        self.assertEqual(turning_of(one, ("turned", one, 59999)), 59999)
        self.assertEqual(turning_of(("then", B, 99999, A), ("then", B, 1, A)), 99998)


class OverEachOther(Case):
    def matters(self, one, other, place):
        with self.subTest(one=one, other=other):
            self.assertEqual(order_matters(one, other), place)
            self.assertEqual(order_matters(other, one), place)

    def test_by_hand(self):
        self.matters(A, B, 0)
        self.matters(AB, ("wheel", "ac"), 1)
        self.matters(("wheel", "ab."), ("wheel", "a.c"), None)
        self.matters(("wheel", "a."), ("wheel", ".b"), None)
        self.matters(("wheel", "a.."), ("wheel", ".b"), 3)
        self.matters(GAP, ABC, None)
        self.matters(ABC, ABC, None)
        self.matters(ABC, ("wheel", "abcabc"), None)

    def test_unlike_marks_alone_matter(self):
        self.matters(("wheel", "a.b.c"), ("wheel", ".x.yc"), None)
        self.matters(("wheel", "a.b.c"), ("wheel", ".x.yd"), 4)

    def test_late(self):
        self.matters(("then", GAP, 9, A), B, 9)
        self.matters(("then", B, 9, GAP), ("then", GAP, 9, A), None)
        self.matters(("then", B, 9, GAP), ("then", GAP, 8, A), 8)
        self.matters(("then", B, 9, ("wheel", "..c")), ("then", GAP, 9, ("wheel", "b")), 11)
        self.matters(("wheel", "." * 249 + "a"), ("wheel", "." * 398 + "b"), 250 * 399 - 1)

    def test_of_some_pairs(self):
        for one, other in PAIRS:
            begin = max(reckoned(one)[0], reckoned(other)[0])
            many = begin + reckoned(one)[1] * reckoned(other)[1]
            places = over_each_other(one, other, min(many, 2500))
            self.matters(one, other, places[0] if places else None)

    def test_together_more_than_twelve_parts(self):
        one, other = chain(12, ABC), chain(12, ("wheel", "abd"))
        self.assertEqual((parts_in(one), parts_in(other)), (12, 12))
        self.matters(one, other, first_apart(one, other))
        self.matters(one, one, None)
        self.refused(NoPress, parts_in, ("over", one, other))

    def test_too_long_together_as_reckoned(self):
        for one, other in ((("wheel", "a" * 317), ("wheel", "a" * 316)), (("then", A, 99999, A), ("wheel", "aa")),
                           (("wheel", "a" * 50000), ("then", A, 50001, A)),
                           (("then", A, 99990, ("wheel", "aaa")), ("then", A, 1, ("wheel", "aaaa"))),
                           (chain(12, ("wheel", "a" * 317)), chain(12, ("wheel", "a" * 316)))):
            self.assertEqual((round_of(one), round_of(other)), ((0, 1), (0, 1)))
            self.refused(TooLong, order_matters, one, other)
            self.refused(TooLong, order_matters, other, one)
            self.assertEqual(turning_of(one, other), 0)

    def test_just_too_long_and_just_not(self):
        for begin, one, other, length in ((0, 250, 400, 2000), (0, 1, 100000, 100000), (3, 317, 315, 317 * 315)):
            late = 100000 - length
            left = ("then", B, late, ("wheel", "a" * one))
            self.matters(left, ("wheel", "b" * other), late)
            self.matters(left, ("wheel", "." * other), None)
            left = ("then", B, late + 1, ("wheel", "a" * one))
            self.refused(TooLong, order_matters, left, ("wheel", "b" * other))
            self.refused(TooLong, order_matters, ("wheel", "." * other), left)

    def test_refused(self):
        for wrong in (None, "a", ("wheel", ""), ("turned", A, True), chain(13)):
            self.refused(NoPress, order_matters, wrong, A)
            self.refused(NoPress, order_matters, A, wrong)
            self.refused(NoPress, order_matters, wrong, TOO_LATE)
            self.refused(NoPress, order_matters, ("wheel", "a" * 99999), wrong)
        for late in (TOO_LATE, TOO_LATE_CAM, ("wheel", "a" * 100001)):
            self.refused(TooLong, order_matters, late, A)
            self.refused(TooLong, order_matters, A, late)
            self.refused(TooLong, order_matters, late, ("wheel", ""))

    def test_kinds(self):
        self.assertIs(type(order_matters(A, B)), int)
        self.assertIs(type(turning_of(AB, AB)), int)
