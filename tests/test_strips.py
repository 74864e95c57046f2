"""Point 5: what each word prints; the program rolls cams by it."""

import unittest

from rimprints.presses import work_from
from rimprints.strips import marks_ahead, rolled, tally_of
from tests.rolling import strip
from tests.samples import A, AB, EACH, GAP, HUGE, presses


def piece(press, first, many):
    return rolled(work_from(press), first, many)


class Words(unittest.TestCase):
    def prints(self, press, printed):
        self.assertEqual(piece(press, 0, len(printed)), printed)

    def test_each_word(self):
        self.prints(("wheel", "ab."), "ab.ab.a")
        self.prints(("turned", ("wheel", "ab."), 4), "b.ab.a")
        self.prints(("over", ("wheel", "ab."), ("wheel", ".z")), "az.zbz")
        self.prints(("cut", ("wheel", "ab."), ("wheel", ".z")), ".b.a..")
        self.prints(("held", ("wheel", "ab."), ("wheel", ".zz")), ".ab..a.b.")
        self.prints(("taking", ((("wheel", "ab."), 2), (("wheel", "yz"), 1))), "aby.azb.y")
        self.prints(("then", ("wheel", "ab."), 4, ("wheel", "yz")), "ab.ayzyz")
        self.prints(("dyed", ("wheel", "ab.c"), (("a", "b"), ("b", "."))), "b..cb..c")

    def test_none_and_one_place(self):
        for press in EACH:
            for first in (0, 1, 5, HUGE):
                self.assertEqual(piece(press, first, 0), "")
                self.assertEqual(len(piece(press, first, 1)), 1)


class Rolling(unittest.TestCase):
    def test_as_rolled_from_place_to_place(self):
        for press in presses(5, 400) + presses(6, 100, 40, 9):
            printed = strip(press, 90)
            work = work_from(press)
            for first, many in ((0, 90), (1, 60), (7, 1), (13, 29), (50, 40), (89, 1)):
                self.assertEqual(rolled(work, first, many), printed[first:first + many], press)

    def test_far_places_are_those_of_the_round(self):
        for press in presses(8, 200):
            work = work_from(press)
            far = work.begin + work.length * HUGE
            self.assertEqual(rolled(work, far, 50), rolled(work, work.begin, 50), press)

    def test_marks_ahead_of_any_place(self):
        for cam in presses(9, 100):
            work = work_from(cam)
            work.tally = tally_of(work)
            printed = strip(cam, 200)
            for place in range(200):
                self.assertEqual(marks_ahead(work, place), 200 - len(printed[place:]) - printed[:place].count("."), cam)

    def test_far_turns(self):
        press = ("taking", ((AB, HUGE), (GAP, 1), (A, HUGE)))
        self.assertEqual(piece(press, HUGE - 3, 6), "aba.aa")
        self.assertEqual(piece(press, 2 * HUGE, 4), "aba"[:1] + "bab")
        self.assertEqual(HUGE % 2, 1)
