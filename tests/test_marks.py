"""Point 9: the mark at a place, and a piece of a strip."""

import unittest

from rimprints.errors import NoPlace, NoPress, TooLong
from rimprints.marks import mark_at, piece
from rimprints.presses import reckoned
from tests.rolling import strip
from tests.samples import A, AB, EACH, GAP, HUGE, chain, presses
from tests.slow import far_mark, short_presses

ABC = ("wheel", "abc")
LONG_CAM = ("cut", A, ("then", A, 100000, A))
# One of each word again, that print more than the plain samples do.
INNER = (
    ("wheel", "ab.z"),
    ("turned", ("wheel", "xy.c."), 3),
    ("over", ABC, ("wheel", ".z")),
    ("cut", ABC, ("wheel", "a.bc")),
    ("held", ABC, ("wheel", "x.x.")),
    ("taking", ((ABC, 2), (("wheel", ".z"), 3))),
    ("then", ("wheel", "yx"), 5, ABC),
    ("dyed", ("wheel", "abcd"), (("a", "b"), ("b", "."), ("d", "a"))),
)


def all_around(inner):
    """The press within one of each word, at each place in it where a press may stand."""
    return [
        ("turned", inner, 7),
        ("over", inner, ("wheel", "q..")), ("over", ("wheel", "qr"), inner),
        ("cut", inner, ("wheel", "q.q")), ("cut", ("wheel", "qrs"), inner),
        ("held", inner, ("wheel", "q.q")), ("held", ("wheel", "qrs"), inner),
        ("taking", ((inner, 2), (("wheel", "qrs"), 1))), ("taking", ((GAP, 3), (inner, 1), (inner, 4))),
        ("then", inner, 9, ("wheel", "qr")), ("then", ("wheel", "qr"), 9, inner),
        ("dyed", inner, (("a", "z"), ("z", "."), ("c", "a"))),
    ]


class Case(unittest.TestCase):
    def refused(self, error, call, *given):
        with self.subTest(given=given), self.assertRaises(error):
            call(*given)

    def prints(self, press, first, printed):
        """The piece from the first place on, and each of its marks alone."""
        self.assertEqual(piece(press, first, len(printed)), printed)
        self.assertEqual("".join(mark_at(press, first + at) for at in range(len(printed))), printed)


class Words(Case):
    def test_each_word_by_hand(self):
        self.prints(("wheel", "ab."), 0, "ab.ab.a")
        self.prints(("turned", ("wheel", "ab."), 4), 0, "b.ab.a")
        self.prints(("over", ("wheel", "ab."), ("wheel", ".z")), 0, "az.zbz")
        self.prints(("cut", ("wheel", "ab."), ("wheel", ".z")), 0, ".b.a..")
        self.prints(("held", ("wheel", "ab."), ("wheel", ".zz")), 0, ".ab..a.b.")
        self.prints(("taking", ((("wheel", "ab."), 2), (("wheel", "yz"), 1))), 0, "aby.azb.y")
        self.prints(("then", ("wheel", "ab."), 4, ("wheel", "yz")), 0, "ab.ayzyz")
        self.prints(("dyed", ("wheel", "ab.c"), (("a", "b"), ("b", "."))), 0, "b..cb..c")

    def test_each_word_within_each_word(self):
        for inner in INNER:
            for press in all_around(inner):
                with self.subTest(press=press):
                    printed = strip(press, 130)
                    self.prints(press, 0, printed)
                    for first in (1, 6, 7, 8, 9, 10, 60):
                        self.assertEqual(piece(press, first, 70), printed[first:first + 70])

    def test_each_word_within_each_word_far(self):
        for inner in INNER:
            for press in all_around(inner):
                for first in (HUGE - 7, 10 ** 29, 123456789 ** 3):
                    with self.subTest(press=press, first=first):
                        self.prints(press, first, "".join(far_mark(press, first + at) for at in range(12)))

    def test_three_deep(self):
        for inner in INNER:
            for between in all_around(inner)[::3]:
                for press in all_around(between)[::2]:
                    with self.subTest(press=press):
                        self.assertEqual(piece(press, 0, 90), strip(press, 90))
                        self.assertEqual(piece(press, 31, 40), strip(press, 71)[31:])

    def test_some_presses(self):
        for press in presses(21, 200) + presses(22, 100, 40, 12):
            printed = strip(press, 100)
            self.assertEqual(piece(press, 0, 100), printed)
            for first, many in ((1, 60), (13, 1), (50, 40), (99, 1), (17, 0)):
                self.assertEqual(piece(press, first, many), printed[first:first + many])
            for place in (0, 1, 2, 5, 41, 99):
                self.assertEqual(mark_at(press, place), printed[place])

    def test_some_presses_far(self):
        for press in short_presses(23, 150):
            for place in (HUGE, 10 ** 29 + 17, 10 ** 12):
                self.assertEqual(mark_at(press, place), far_mark(press, place), press)


class Turned(Case):
    def test_by_thirty_figures(self):
        for inner in INNER:
            press = ("turned", inner, HUGE)
            for place in (0, 1, 2, 3, 50, HUGE):
                self.assertEqual(mark_at(press, place), far_mark(inner, HUGE + place), inner)

    def test_on_and_on(self):
        press = ("turned", ("turned", ("wheel", "abcdefg"), HUGE), 10 ** 29)
        self.prints(press, HUGE, "".join("abcdefg"[(2 * HUGE + 10 ** 29 + at) % 7] for at in range(9)))


class Held(Case):
    def test_by_no_mark(self):
        for cam in (GAP, ("wheel", "..."), ("cut", A, GAP), ("held", A, GAP), ("dyed", A, (("a", "."),))):
            for place in (0, 1, 77, HUGE):
                self.prints(("held", ABC, cam), place, "....")

    def test_by_one_mark_ahead(self):
        cam = ("then", ("wheel", "..x.."), 5, GAP)
        self.prints(("held", ABC, cam), 0, "..a......")
        self.prints(("held", ABC, cam), HUGE, "....")
        self.prints(("held", ABC, ("turned", cam, 3)), 0, ".....")

    def test_by_one_mark_of_many_places(self):
        cam = ("wheel", "." * 999 + "x")
        press = ("held", ("wheel", "abcdefg"), cam)
        for lap in (0, 1, 6, 7, 8, 10 ** 26, 10 ** 26 + 3):
            self.prints(press, lap * 1000 + 998, "." + "abcdefg"[lap % 7] + ".")

    def test_by_few_marks(self):
        press = ("held", ("wheel", "abcdefg"), ("wheel", "x..x."))
        for lap in (0, 1, 5, 10 ** 28, 10 ** 29 + 1):
            marks = ["abcdefg"[(2 * lap + at) % 7] for at in range(4)]
            self.prints(press, lap * 5, f"{marks[0]}..{marks[1]}.{marks[2]}..{marks[3]}.")

    def test_by_all_marks(self):
        for cam in (A, ABC, ("turned", A, HUGE), ("over", GAP, A)):
            for inner in INNER:
                for place in (0, 1, 30, HUGE):
                    self.assertEqual(mark_at(("held", inner, cam), place), mark_at(inner, place))

    def test_late_cams(self):
        cam = ("then", ("wheel", "x."), 99990, ("wheel", "xx..."))
        press = ("held", ("wheel", "abcdefghijk"), cam)
        rim = "abcdefghijk"
        self.prints(press, 99988, rim[49994 % 11] + "." + rim[49995 % 11] + rim[49996 % 11] + "..." + rim[49997 % 11])
        lap = 10 ** 28
        marks = [rim[(49995 + 2 * lap + at) % 11] for at in range(3)]
        self.prints(press, 99990 + 5 * lap, f"{marks[0]}{marks[1]}...{marks[2]}")

    def test_it_stands_still_meanwhile(self):
        self.prints(("cut", ABC, ("wheel", "x..")), 0, "a..a..a..")
        self.prints(("held", ABC, ("wheel", "x..")), 0, "a..b..c..")


class Taking(Case):
    def test_places_of_many_figures(self):
        for one, other in ((HUGE, 1), (1, HUGE), (10 ** 20 + 3, 10 ** 12 + 7), (HUGE, HUGE - 1)):
            press = ("taking", ((ABC, one), (("wheel", "vwxyz"), other)))
            for lap in (0, 1, 2, 10 ** 9 + 4):
                start = lap * (one + other)
                for at in (0, one // 2, one - 1):
                    self.assertEqual(mark_at(press, start + at), "abc"[(lap * one + at) % 3])
                for at in (0, other // 2, other - 1):
                    self.assertEqual(mark_at(press, start + one + at), "vwxyz"[(lap * other + at) % 5])

    def test_seams(self):
        press = ("taking", ((ABC, HUGE), (("wheel", "vwxyz"), HUGE)))
        self.assertEqual((HUGE % 3, HUGE % 5), (0, 4))
        self.prints(press, HUGE - 2, "bcvw")
        self.prints(press, 2 * HUGE - 2, "xyab")
        self.prints(press, 3 * HUGE - 1, "czvw")

    def test_each_goes_on_where_it_was(self):
        self.prints(("taking", ((ABC, 2), (ABC, 2), (("wheel", "z."), 1))), 0, "ababzcaca.bcbcz")

    def test_six(self):
        press = ("taking", tuple((("wheel", sign), at + 1) for at, sign in enumerate("abc.ef")))
        self.prints(press, 21 * 10 ** 28, "abbccc....eeeeeffffffa")


class Seams(Case):
    def test_then(self):
        for many in (0, 1, 5, 10 ** 29, HUGE):
            press = ("then", ABC, many, ("wheel", "xyz."))
            for place in (many - 3, many - 2, many - 1):
                if place >= 0:
                    self.assertEqual(mark_at(press, place), "abc"[place % 3])
            self.prints(press, many, "xyz.xy")
            if many > 1:
                self.prints(press, many - 1, "abc"[(many - 1) % 3] + "xyz")

    def test_wheel(self):
        self.prints(ABC, 2, "cabcab")
        self.prints(("wheel", "a" * 59 + "b"), 60 * 10 ** 28 - 2, "abaa")


class Pieces(Case):
    def test_of_none(self):
        for press in EACH + INNER:
            for first in (0, 1, 5, HUGE):
                self.assertEqual(piece(press, first, 0), "")

    def test_of_two_thousand(self):
        for press in EACH + INNER + (("taking", ((AB, HUGE), (ABC, 1))), ("held", ABC, ("wheel", "x" + "." * 59))):
            printed = strip(press, 2100)
            for first in (0, 1, 99):
                self.assertEqual(piece(press, first, 2000), printed[first:first + 2000])

    def test_of_two_thousand_far(self):
        for press in EACH + INNER:
            begin, length = reckoned(press)
            printed = strip(press, begin + length)[begin:] * 2001
            self.assertEqual(piece(press, begin + length * HUGE, 2000), printed[:2000])

    def test_they_are_texts(self):
        for press in EACH + INNER:
            self.assertIs(type(mark_at(press, 3)), str)
            self.assertIs(type(piece(press, 3, 4)), str)
            self.assertEqual(len(mark_at(press, HUGE)), 1)


class Refused(Case):
    def test_no_place(self):
        for wrong in (-1, -HUGE, True, False, "0", "a", "", None, (0,), [1], 1.0, A):
            self.refused(NoPlace, mark_at, A, wrong)
            self.refused(NoPlace, piece, A, wrong, 1)
            self.refused(NoPlace, piece, A, 0, wrong)
            self.refused(NoPlace, piece, A, wrong, wrong)

    def test_no_press_first(self):
        for wrong in (None, "a", ("wheel", ""), ("turned", A, -1), chain(13), ("over", LONG_CAM, ("wheel", ""))):
            for place in (0, -1, None):
                self.refused(NoPress, mark_at, wrong, place)
                self.refused(NoPress, piece, wrong, place, 1)
                self.refused(NoPress, piece, wrong, 0, place)

    def test_too_long_ahead_of_no_place(self):
        for word in ("cut", "held"):
            press = (word, A, ("then", A, 100000, A))
            for place in (0, -1, True, "a"):
                self.refused(TooLong, mark_at, press, place)
                self.refused(TooLong, piece, press, place, 1)
                self.refused(TooLong, piece, press, 0, place)
            self.assertEqual(mark_at((word, A, ("then", A, 99999, A)), 0), "a")

    def test_late_ones_are_told(self):
        self.prints(("then", A, HUGE, AB), HUGE - 1, "aabab")
        self.prints(("cut", ("then", A, HUGE, AB), ("wheel", "xx.")), HUGE - 1, ".ab.b")
        wide = ("over", ("wheel", "a" + "." * 996), ("over", ("wheel", "b" + "." * 990), ("wheel", "c" + "." * 982)))
        self.assertGreater(reckoned(wide)[1], 100000)
        self.prints(wide, 997 * 991 * 983 * 10 ** 20, "c.")
        self.prints(wide, 997 * 991, "b.")
