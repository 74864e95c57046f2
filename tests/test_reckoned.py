"""Point 7: from where on, and by what length a press comes round."""

import unittest

from rimprints.presses import reckoned
from rimprints.texts import read_press
from tests.rolling import strip
from tests.samples import A, AB, GAP, HUGE, presses


def wheel(length):
    return ("wheel", "a" * length)


def late(begin, length):
    """A press that is reckoned as (begin, length)."""
    return ("then", A, begin, wheel(length))


class Reckoned(unittest.TestCase):
    def told(self, press, begin, length):
        self.assertEqual(reckoned(press), (begin, length))


class Words(Reckoned):
    def test_wheel(self):
        for length in (1, 2, 60, 61):
            self.told(wheel(length), 0, length)
        self.told(GAP, 0, 1)
        self.told(("wheel", "abab"), 0, 4)

    def test_turned(self):
        for many, begin in ((0, 5), (1, 4), (4, 1), (5, 0), (6, 0), (HUGE, 0)):
            self.told(("turned", late(5, 3), many), begin, 3)
        self.told(("turned", wheel(4), 9), 0, 4)
        self.told(("turned", late(HUGE, 3), HUGE - 1), 1, 3)

    def test_dyed(self):
        self.told(("dyed", late(5, 3), ()), 5, 3)
        self.told(("dyed", late(5, 3), (("a", "."),)), 5, 3)

    def test_over_and_cut(self):
        for word in ("over", "cut"):
            self.told((word, late(5, 4), late(7, 6)), 7, 12)
            self.told((word, late(7, 4), late(5, 6)), 7, 12)
            self.told((word, wheel(3), wheel(5)), 0, 15)
            self.told((word, late(HUGE, 4), wheel(6)), HUGE, 12)
            self.told((word, wheel(4), wheel(4)), 0, 4)
        self.told(("over", wheel(4), late(HUGE, 6)), HUGE, 12)

    def test_then(self):
        self.told(("then", A, 0, wheel(3)), 0, 3)
        self.told(("then", A, 1, wheel(3)), 1, 3)
        self.told(("then", late(70, 11), 4, late(5, 3)), 9, 3)
        self.told(("then", A, HUGE, late(HUGE, 3)), 2 * HUGE, 3)

    def test_taking(self):
        self.told(("taking", ((wheel(4), 2), (wheel(3), 1))), 0, 3 * 6)
        self.told(("taking", ((wheel(4), 6), (wheel(9), 6))), 0, 12 * 6)
        self.told(("taking", ((A, 1), (A, 1))), 0, 2)
        self.told(("taking", ((AB, 2), (wheel(3), 3), (wheel(5), 10))), 0, 15)
        self.told(("taking", ((wheel(2), 1),) * 6), 0, 12)

    def test_taking_from(self):
        for begin, rounds in ((0, 0), (1, 1), (2, 1), (3, 1), (4, 2), (6, 2), (7, 3)):
            self.told(("taking", ((late(begin, 1), 3), (A, 2))), 5 * rounds, 5)
            self.told(("taking", ((A, 2), (late(begin, 1), 3))), 5 * rounds, 5)
        self.told(("taking", ((late(10, 1), 5), (late(9, 1), 2))), 7 * 5, 7)
        self.told(("taking", ((late(7, 1), 2), (late(9, 1), 3))), 5 * 4, 5)

    def test_taking_of_thirty_figures(self):
        self.told(("taking", ((wheel(2), HUGE), (wheel(3), HUGE - 1))), 0, (2 * HUGE - 1) * 6)
        self.told(("taking", ((late(HUGE, 2), 1), (A, HUGE))), (HUGE + 1) * HUGE, (HUGE + 1) * 2)
        self.told(("taking", ((late(HUGE, 1), HUGE - 1), (A, 1))), HUGE * 2, HUGE)


class Held(Reckoned):
    def test_no_mark_in_its_round(self):
        self.told(("held", wheel(7), GAP), 0, 1)
        self.told(("held", wheel(7), ("wheel", "....")), 0, 1)
        self.told(("held", late(HUGE, 7), ("then", A, 6, ("wheel", "..."))), 6, 1)
        self.told(("held", wheel(7), ("cut", A, GAP)), 0, 1)

    def test_marks_in_its_round(self):
        self.told(("held", wheel(7), A), 0, 7)
        self.told(("held", wheel(6), ("wheel", "a.bc.")), 0, 5 * 2)
        self.told(("held", wheel(7), ("wheel", "a.bc.")), 0, 5 * 7)
        self.told(("held", wheel(6), ("wheel", "a.b.cd.")), 0, 7 * 3)

    def test_from_of_the_held_one(self):
        for begin, rounds in ((0, 0), (1, 1), (2, 1), (3, 2), (4, 2), (5, 3)):
            self.told(("held", late(begin, 1), ("wheel", "a.b")), 3 * rounds, 3)

    def test_marks_ahead_of_its_round(self):
        cam = ("then", ("wheel", "aa."), 7, ("wheel", "b.b"))
        for begin, rounds in ((0, 0), (4, 0), (5, 0), (6, 1), (7, 1), (8, 2), (9, 2), (10, 3)):
            self.told(("held", late(begin, 1), cam), 7 + 3 * rounds, 3)
        self.told(("held", late(HUGE, 3), cam), 7 + 3 * ((HUGE - 5 + 1) // 2), 9)

    def test_held_by_a_held_one(self):
        cam = ("held", ("wheel", "a."), ("wheel", "x.x"))
        self.assertEqual(strip(cam, 6), "a..a..")
        self.told(cam, 0, 3)
        self.told(("held", wheel(4), cam), 0, 12)
        self.told(("held", late(9, 4), cam), 27, 12)

    def test_each_word_as_a_cam(self):
        self.told(("held", late(9, 7), ("turned", ("wheel", "a.."), 1)), 27, 21)
        self.told(("held", late(9, 7), ("turned", late(8, 3), 6)), 2 + 3 * 3, 21)
        self.told(("held", late(9, 7), ("over", ("wheel", "a..."), ("wheel", ".a"))), 12, 28)
        self.told(("held", late(9, 7), ("cut", ("wheel", "aa.."), ("wheel", ".a"))), 36, 28)
        self.told(("held", late(9, 7), ("taking", ((("wheel", "ab."), 2), (GAP, 1)))), 27, 63)
        self.told(("held", late(9, 7), ("dyed", AB, (("a", "."),))), 18, 14)
        self.told(("held", late(9, 7), ("dyed", AB, (("c", "."),))), 10, 14)
        self.told(("held", late(9, 7), ("dyed", AB, (("a", "."), ("b", ".")))), 0, 1)

    def test_long_cams(self):
        self.told(("held", wheel(3), ("wheel", "a" + "." * 99999)), 0, 300000)
        self.told(("held", wheel(3), ("then", A, 99999, A)), 99999, 3)
        self.told(("held", late(100001, 3), ("then", A, 99999, A)), 100001, 3)
        self.told(("held", wheel(3), ("then", A, 99999, GAP)), 99999, 1)
        self.told(("held", late(5, 7), ("over", ("wheel", "a" + "." * 315), ("wheel", "b" + "." * 315))), 1580, 2212)
        self.told(("held", wheel(2), ("over", ("wheel", "a" + "." * 249), ("wheel", "b" + "." * 398))), 0, 250 * 399)

    def test_a_cam_that_is_turned_far(self):
        far = ("turned", ("then", A, HUGE, ("wheel", "a..")), HUGE)
        self.told(("held", late(4, 5), far), 12, 15)
        far = ("turned", ("then", ("wheel", "a...."), HUGE, ("wheel", "a..")), HUGE - 9)
        self.assertEqual(HUGE - 9, (HUGE - 9) // 5 * 5)
        self.told(("held", late(4, 5), far), 9 + 3 * 2, 15)

    def test_a_cam_of_far_held_marks(self):
        lifts = ("held", ("wheel", "ab..c"), ("wheel", "x.x"))
        far = ("turned", ("then", lifts, HUGE, GAP), HUGE - 30)
        ahead = 30 * 2 * 3 // (3 * 5)
        self.assertEqual(reckoned(("held", late(0, 5), far)), (30, 1))
        far = ("turned", ("then", lifts, HUGE, A), HUGE - 30)
        for begin in (ahead, ahead + 1, ahead + 5):
            self.told(("held", late(begin, 5), far), 30 + begin - ahead, 5)

    def test_a_cam_taking_far_turns(self):
        far = ("turned", ("then", ("taking", ((A, 10 ** 20), (GAP, 10 ** 20))), 10 ** 21, GAP), 10 ** 21 - 10 ** 4)
        self.told(("held", late(HUGE, 5), far), 10 ** 4, 1)
        far = ("turned", ("then", ("taking", ((A, 10 ** 20), (GAP, 10 ** 20))), 10 ** 20 + 9, A), 10 ** 20 - 9)
        self.told(("held", late(12, 5), far), 18 + 3, 5)


class Rolled(unittest.TestCase):
    def test_from_there_on_it_comes_round_by_that_length(self):
        for press in presses(7, 400):
            begin, length = reckoned(press)
            if begin + length > 3000:
                continue
            printed = strip(press, begin + 3 * length)
            self.assertEqual(printed[begin:-length], printed[begin + length:], press)

    def test_lengths_that_are_not_the_least(self):
        self.assertEqual(reckoned(("wheel", "aaaa")), (0, 4))
        self.assertEqual(reckoned(("then", A, 9, A)), (9, 1))
        self.assertEqual(reckoned(("taking", ((A, 2), (A, 3)))), (0, 5))

    def test_a_press_that_was_read(self):
        press = read_press("(held (then (wheel a) 5 (wheel abc)) (then (wheel a) 2 (wheel b.)))")
        self.assertEqual(reckoned(press), (2 + 2 * 3, 6))
