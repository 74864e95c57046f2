"""Point 10: the round of a press, and presses told plainly."""

import unittest

from rimprints.errors import NoPress, TooLong
from rimprints.marks import mark_at, piece
from rimprints.presses import press_of, reckoned
from rimprints.rounds import plain, press_by, round_of
from tests.rolling import strip
from tests.samples import A, AB, EACH, GAP, HUGE, chain, made_of_tuples
from tests.slow import least_round, short_presses

SOME = EACH + tuple(short_presses(31, 300) + short_presses(32, 150, 12, 9))


class Case(unittest.TestCase):
    def refused(self, error, call, *given):
        with self.subTest(call=call), self.assertRaises(error):
            call(*given)

    def comes_round(self, press, ahead, lap):
        with self.subTest(press=press):
            self.assertEqual(round_of(press), (len(ahead), len(lap)))
            self.assertEqual(plain(press), (ahead, lap))


class Rounds(Case):
    def test_wheels(self):
        self.comes_round(("wheel", "ab."), "", "ab.")
        self.comes_round(A, "", "a")
        self.comes_round(GAP, "", ".")

    def test_rims_that_are_shorter_ones_again_and_again(self):
        self.comes_round(("wheel", "aaaa"), "", "a")
        self.comes_round(("wheel", "abab"), "", "ab")
        self.comes_round(("wheel", "ab.ab.ab."), "", "ab.")
        self.comes_round(("wheel", "aab" * 20), "", "aab")
        self.comes_round(("wheel", "ababa"), "", "ababa")
        self.comes_round(("wheel", "aabaab" + "aabaac"), "", "aabaabaabaac")
        self.comes_round(("wheel", "." * 60), "", ".")
        self.comes_round(("wheel", "." * 59 + "a"), "", "." * 59 + "a")

    def test_reckoned_longer_than_it_is(self):
        self.comes_round(("taking", ((A, 2), (A, 3))), "", "a")
        self.comes_round(("over", ("wheel", "abc"), ("wheel", "xy")), "", "xy")
        self.comes_round(("cut", ("wheel", "abc"), GAP), "", ".")
        self.comes_round(("held", ("wheel", "abab"), ("wheel", "x.x.x.")), "", "a.b.")
        self.comes_round(("dyed", AB, (("a", "c"), ("b", "c"))), "", "c")
        self.comes_round(("over", ("wheel", "aab"), ("wheel", "bb.")), "", "b")

    def test_reckoned_later_than_it_is(self):
        self.comes_round(("then", AB, 4, AB), "", "ab")
        self.comes_round(("then", AB, 5, ("wheel", "ba")), "", "ab")
        self.comes_round(("then", ("wheel", "xyab"), 4, AB), "xy", "ab")
        self.comes_round(("then", ("wheel", "xyb"), 3, AB), "xy", "ba")
        self.comes_round(("over", ("then", A, 50, AB), ("wheel", "c")), "", "c")
        self.comes_round(("turned", ("then", ("wheel", "xyab"), 4, AB), 1), "y", "ab")
        self.comes_round(("turned", ("then", ("wheel", "xyab"), 4, AB), 2), "", "ab")
        self.comes_round(("turned", ("then", ("wheel", "xyab"), 4, AB), 3), "", "ba")

    def test_late_by_what_is_ahead(self):
        self.comes_round(("then", A, 1, ("wheel", "b")), "a", "b")
        self.comes_round(("then", AB, 5, AB), "abab" + "a", "ab")
        self.comes_round(("then", ("wheel", "."), 7, A), "." * 7, "a")
        self.comes_round(("then", A, 99999, ("wheel", "b")), "a" * 99999, "b")
        self.comes_round(("held", ("wheel", "abc"), ("then", GAP, 3, A)), "...", "abc")
        self.comes_round(("taking", ((("then", A, 1, ("wheel", "b")), 2), (GAP, 1))), "a", "b.b")

    def test_length_one_and_late(self):
        self.comes_round(("then", ("wheel", "abb"), 3, ("wheel", "b")), "a", "b")
        self.comes_round(("then", ("wheel", "aba"), 3, ("wheel", "bbbb")), "aba", "b")

    def test_as_looked_for_from_one_on(self):
        for press in SOME:
            self.assertEqual(round_of(press), least_round(press), press)
            begin, length = round_of(press)
            printed = strip(press, begin + length)
            self.assertEqual(plain(press), (printed[:begin], printed[begin:]), press)

    def test_it_divides_what_is_reckoned(self):
        for press in SOME:
            begin, length = reckoned(press)
            self.assertLessEqual(round_of(press)[0], begin)
            self.assertEqual(length % round_of(press)[1], 0)

    def test_kinds(self):
        for press in SOME:
            self.assertEqual([type(part) for part in round_of(press)], [int, int])
            self.assertIs(type(round_of(press)), tuple)
            self.assertIs(type(plain(press)), tuple)
            self.assertEqual([type(part) for part in plain(press)], [str, str])


class ToldPlainly(Case):
    def test_the_press_of_two_texts(self):
        self.assertEqual(press_by("", "ab."), ("wheel", "ab."))
        self.assertEqual(press_by("xyz", "ab."), ("then", ("wheel", "xyz"), 3, ("wheel", "ab.")))
        self.assertEqual(press_by(".", "."), ("then", GAP, 1, GAP))
        self.assertEqual(press_by("ab", "ab"), ("then", AB, 2, AB))

    def test_they_are_not_told_shorter(self):
        self.assertEqual(press_by("", "abab"), ("wheel", "abab"))
        self.assertEqual(press_by("ab", "abab"), ("then", AB, 2, ("wheel", "abab")))
        self.comes_round(press_by("ab", "abab"), "", "ab")

    def test_told_so_it_is_the_same_press(self):
        for press in SOME:
            told = press_by(*plain(press))
            self.assertTrue(made_of_tuples(told))
            self.assertEqual(press_of(told), told)
            self.assertEqual(round_of(told), round_of(press), press)
            self.assertEqual(plain(told), plain(press), press)
            self.assertEqual(reckoned(told), round_of(press), press)
            self.assertEqual(piece(told, 0, 90), strip(press, 90), press)
            for place in (HUGE, 10 ** 29):
                self.assertEqual(mark_at(told, place), mark_at(press, place), press)

    def test_thousands_of_marks(self):
        wide = ("over", ("wheel", "a" + "." * 96), ("wheel", "b" + "." * 100))
        for press in (wide, ("then", ("wheel", "xyz"), 9000, wide), ("then", wide, 90000, ("wheel", "xyz"))):
            told = press_by(*plain(press))
            self.assertEqual(plain(told), plain(press))
            self.assertEqual(round_of(told), round_of(press))
            self.assertEqual(piece(told, HUGE, 2000), piece(press, HUGE, 2000))
            self.assertEqual(piece(told, 8990, 2000), piece(press, 8990, 2000))
        self.assertEqual(round_of(("then", ("wheel", "xyz"), 9000, wide)), (9000, 97 * 101))

    def test_no_press(self):
        self.refused(NoPress, press_by, "", "")
        self.refused(NoPress, press_by, "a", "")
        for wrong in (None, 0, 1, True, b"a", ["a"], ("a",), [], (), {}, "A", "aB", "a b", " ", "a ", " a", "?", "a?",
                      "-", "1", "a\n", "\n", "\u00e4", "`", "{", "/", A):
            self.refused(NoPress, press_by, "", wrong)
            self.refused(NoPress, press_by, "a", wrong)
            self.refused(NoPress, press_by, wrong, "a")
            self.refused(NoPress, press_by, wrong, "")


class TooLate(Case):
    def test_from_and_length_added(self):
        for late, short in ((("then", A, 100000, ("wheel", "b")), ("then", A, 99999, ("wheel", "b"))),
                            (("then", A, 99901, ("wheel", "ab" * 50)), ("then", A, 99900, ("wheel", "ab" * 50))),
                            (("wheel", "ab" * 50000 + "a"), ("wheel", "ab" * 50000)),
                            (("taking", ((A, 100000), (AB, 1))), ("taking", ((A, 49999), (AB, 1)))),
                            (("then", A, HUGE, A), ("turned", ("then", A, HUGE, A), HUGE - 99999))):
            for call in (round_of, plain):
                self.refused(TooLong, call, late)
            self.assertEqual(sum(round_of(short)), sum(map(len, plain(short))))
            self.assertLessEqual(sum(round_of(short)), sum(reckoned(short)))

    def test_just_not_too_late(self):
        for press in (("then", A, 99999, A), ("wheel", "a" * 100000), ("then", A, 50000, ("wheel", "a" * 50000)),
                      ("taking", ((A, 99999), (A, 1)))):
            self.assertEqual(sum(reckoned(press)), 100000)
            self.comes_round(press, "", "a")

    def test_be_the_least_round_ever_so_short(self):
        for press in (("then", A, 100000, A), ("wheel", "a" * 100001), ("then", A, 50001, ("wheel", "a" * 50000)),
                      ("taking", ((A, 100000), (A, 1))), ("then", A, HUGE, A), ("taking", ((A, HUGE), (A, HUGE))),
                      ("over", ("wheel", "a" * 499), ("wheel", "a" * 503)), ("dyed", ("then", A, 100000, A), ())):
            self.assertGreater(sum(reckoned(press)), 100000)
            self.refused(TooLong, round_of, press)
            self.refused(TooLong, plain, press)

    def test_cams(self):
        for word in ("cut", "held"):
            late = ("turned", (word, A, ("then", A, 100000, A)), HUGE)
            self.refused(TooLong, round_of, late)
            self.refused(TooLong, plain, late)

    def test_no_press_ahead_of_too_long(self):
        late = ("then", A, 100000, A)
        for wrong in (("over", late, ("wheel", "")), ("over", ("cut", A, late), ("wheel", "A")), ("over", late, chain(9)),
                      None, "a", (), chain(13)):
            self.refused(NoPress, round_of, wrong)
            self.refused(NoPress, plain, wrong)

    def test_of_two_texts(self):
        self.refused(TooLong, press_by, "a" * 100000, "a")
        self.refused(TooLong, press_by, "", "a" * 100001)
        self.refused(TooLong, press_by, "a", "a" * 100000)
        self.assertEqual(press_by("a" * 99999, "a"), ("then", ("wheel", "a" * 99999), 99999, A))
        self.assertEqual(press_by("", "a" * 100000), ("wheel", "a" * 100000))
        self.refused(NoPress, press_by, "a" * 100000, "")
        self.refused(NoPress, press_by, "a" * 100001, "A")
        self.refused(NoPress, press_by, "A" * 100001, "a")
