"""Points 16 and 17: two wheels, one over the other, and what stands beneath a known one."""

import unittest

from rimprints.errors import NoNumber, NoPress, NoSeen, PrintError
from rimprints.marks import piece
from rimprints.one import rim_for
from rimprints.two import beneath, least_two, two_for
from tests.seeing import NO_NUMBERS, NO_PIECES, all_rims, drawn, filled, is_seen_of, one_over_other, printed_by_two
from tests.seeing import slow_beneath, slow_least_two, slow_two

DRAWN = drawn(81, 120) + drawn(82, 60, "ab.??????", 40) + drawn(83, 40, "abc.", 9)
PRINTED = printed_by_two(84, 80) + printed_by_two(85, 12, 12, 300)
PIECES = DRAWN + [seen for seen, _, _ in PRINTED]
NO_RIMS = (None, "", "A", "a?", "?", "ab ", " ", "a1", "-", "\n", 0, 1, True, b"a", ["a"], ("a",), [], (), ("wheel",
                                                                                                            "a"))


class Case(unittest.TestCase):
    def refused(self, error, call, *given):
        with self.subTest(call=call, given=given), self.assertRaises(PrintError) as caught:
            call(*given)
        self.assertIs(type(caught.exception), error)


class Two(Case):
    def test_by_hand(self):
        self.assertEqual(two_for("ab", 2, 1), ("ab", "."))
        self.assertEqual(two_for("ab", 1, 2), ("?", "ab"))
        self.assertIsNone(two_for("ab", 1, 1))
        self.assertEqual(two_for("aab", 1, 2), None)
        self.assertEqual(two_for("xaxbxa", 4, 2), ("?a?b", "x."))
        self.assertEqual(two_for("xaxbxa", 3, 2), ("baa", "x."))
        self.assertIsNone(two_for("xaxbxa", 2, 2))

    def test_the_upper_one_has_a_letter_where_all_that_is_seen_is_this_letter(self):
        self.assertEqual(two_for("aa", 1, 1), ("?", "a"))
        self.assertEqual(two_for("a?a?", 2, 2), ("??", "a?"))
        self.assertEqual(two_for("a.a.", 2, 2), ("?.", "a."))
        self.assertEqual(two_for("abaa", 2, 2), None)
        self.assertEqual(two_for("abaa", 4, 2), ("?b?a", "a."))

    def test_the_upper_one_has_no_mark_where_none_is_seen(self):
        self.assertEqual(two_for(".", 1, 1), (".", "."))
        self.assertEqual(two_for("..", 1, 2), (".", ".."))
        self.assertEqual(two_for(".?", 1, 2), (".", ".?"))
        self.assertEqual(two_for(".a", 1, 2), (".", ".a"))
        self.assertEqual(two_for("a.", 2, 1), ("a.", "."))
        self.assertIsNone(two_for("a.", 1, 1))

    def test_the_lower_one_has_what_is_seen_where_the_upper_one_has_no_mark(self):
        self.assertEqual(two_for("ab?ab?a", 3, 2), ("ab?", ".."))
        self.assertIsNone(two_for("ab?ab?b", 3, 2))
        self.assertEqual(two_for("xayxbyxay", 6, 3), ("?a??b?", "x.y"))
        self.assertIsNone(two_for("xayxbyxay", 3, 3))
        self.assertEqual(two_for("xayx.y", 6, 3), ("?a??.?", "x.y"))

    def test_longer_than_the_piece(self):
        self.assertEqual(two_for("ab", 40, 1), ("ab" + "?" * 38, "."))
        self.assertEqual(two_for("ab", 1, 40), ("?", "ab" + "?" * 38))
        self.assertEqual(two_for("ab.", 40, 40), ("??." + "?" * 37, "ab." + "?" * 37))

    def test_nothing_seen(self):
        for many in (1, 2, 300):
            self.assertEqual(two_for("?" * many, 1, 1), ("?", "?"))
            self.assertEqual(two_for("?" * many, 40, 39), ("?" * 40, "?" * 39))

    def test_three_hundred_places(self):
        seen = one_over_other("abcde", "x..", 300)
        self.assertEqual(two_for(seen, 5, 3), ("abcde", "x.."))
        self.assertEqual(two_for(seen, 15, 1), (seen[:15], "."))
        self.assertEqual(two_for(seen, 1, 15), ("?", seen[:15]))
        self.assertIsNone(two_for(seen, 3, 5))
        self.assertIsNone(two_for(seen[:299] + "z", 5, 3))
        self.assertEqual(two_for("?" * 299 + "a", 40, 40), ("?" * 40, "?" * 19 + "a" + "?" * 20))

    def test_by_the_words(self):
        lengths = (1, 2, 3, 4, 6, 7, 11, 40)
        for seen in PIECES:
            for lower in lengths:
                for upper in lengths:
                    self.assertEqual(two_for(seen, lower, upper), slow_two(seen, lower, upper), (seen, lower, upper))

    def test_told_just_where_some_pair_can_have_printed_it(self):
        rims = {length: all_rims(length, "ab.") for length in (1, 2, 3)}
        none = 0
        for seen in drawn(86, 60, "ab.?", 8):
            for lower in (1, 2, 3):
                for upper in (1, 2, 3):
                    able = any(is_seen_of(seen, one_over_other(low, high, len(seen)))
                               for low in rims[lower] for high in rims[upper])
                    self.assertEqual(two_for(seen, lower, upper) is not None, able, (seen, lower, upper))
                    none += not able
        self.assertGreater(none, 50)

    def test_told_pairs_print_it(self):
        for seen in DRAWN:
            for lower, upper in ((1, 1), (2, 3), (3, 2), (4, 4), (5, 1), (1, 5)):
                told = two_for(seen, lower, upper)
                if told is not None and (told[0] + told[1]).count("?") < 6:
                    self.all_print(seen, told)

    def all_print(self, seen, told):
        for low in filled(told[0], "a.z"):
            for high in filled(told[1], "b.z"):
                press = ("over", ("wheel", low), ("wheel", high))
                self.assertTrue(is_seen_of(seen, piece(press, 0, len(seen))), (seen, told))

    def test_those_that_printed_it_are_not_left_out(self):
        for seen, lower, upper in PRINTED:
            low, high = two_for(seen, len(lower), len(upper))
            self.assertEqual((len(low), len(high)), (len(lower), len(upper)))
            press = ("over", ("wheel", low.replace("?", "z")), ("wheel", high.replace("?", "z")))
            self.assertTrue(is_seen_of(seen, piece(press, 0, len(seen))))

    def test_one_wheel_is_two_wheels(self):
        for seen in PIECES:
            for length in (1, 2, 5):
                if rim_for(seen, length) is not None:
                    self.assertIsNotNone(two_for(seen, length, 1))
                    self.assertIsNotNone(two_for(seen, 1, length))

    def test_kinds(self):
        for seen in PIECES:
            told = two_for(seen, 40, 40)
            if told is not None:
                self.assertIs(type(told), tuple)
                self.assertEqual([type(rim) for rim in told], [str, str])


class LeastTwo(Case):
    def test_by_hand(self):
        self.assertEqual(least_two("a", 1), (1, 1))
        self.assertEqual(least_two("ab", 2), (1, 2))
        self.assertIsNone(least_two("ab", 1))
        self.assertEqual(least_two("a.", 2), (1, 2))
        self.assertEqual(least_two(one_over_other("abcde", "x..", 60), 40), (5, 3))

    def test_of_the_least_sum_the_least_lower_one(self):
        self.assertEqual(least_two("abc", 3), (1, 3))
        self.assertIsNone(least_two("abc", 2))
        self.assertEqual(least_two("abcabc", 40), (1, 3))
        self.assertEqual(least_two("ab.a", 40), (1, 3))
        self.assertEqual(least_two("a.ab", 40), (1, 4))
        self.assertEqual(least_two("a.abac", 40), (3, 2))

    def test_the_lower_one_is_the_longer_one(self):
        seen = one_over_other("abcdefg", "x.", 70)
        self.assertEqual(least_two(seen, 7), (7, 2))
        self.assertIsNone(least_two(seen, 6))

    def test_the_most_is_for_each_of_them(self):
        seen = one_over_other("abcdefg", "x..y.", 200)
        self.assertEqual(least_two(seen, 40), (7, 5))
        self.assertEqual(least_two(seen, 7), (7, 5))
        self.assertIsNone(least_two(seen, 6))

    def test_ends(self):
        for seen in ("a", ".", "?", "?" * 300, "a" * 300, "." * 300, "a?" * 150):
            self.assertEqual(least_two(seen, 1), (1, 1))
            self.assertEqual(least_two(seen, 40), (1, 1))
        forty = "".join("abcdefghijklmnopqrstuvwxyz"[at % 26] for at in range(40))
        self.assertEqual(two_for(forty * 7, 40, 40), ("?" * 40, forty))
        self.assertEqual(least_two(forty * 7, 40), (1, 40))
        self.assertIsNone(least_two(forty * 7, 39))
        self.assertIsNone(least_two("a" * 150 + "b" * 150, 40))

    def test_by_the_words(self):
        found = 0
        for seen in DRAWN + [seen for seen, _, _ in PRINTED[:40]]:
            told = least_two(seen, 6)
            self.assertEqual(told, slow_least_two(seen, 6), seen)
            self.assertEqual(least_two(seen, 2), slow_least_two(seen, 2), seen)
            found += told is not None
        self.assertGreater(found, 50)
        self.assertLess(found, len(DRAWN) + 40)

    def test_by_the_words_up_to_forty(self):
        for seen in [seen for seen, _, _ in printed_by_two(87, 4, 9, 90)] + drawn(88, 4, "ab.?", 50):
            self.assertEqual(least_two(seen, 40), slow_least_two(seen, 40), seen)

    def test_nothing_lesser(self):
        for seen, lower, upper in PRINTED:
            low, high = least_two(seen, 40)
            self.assertLessEqual((low + high, low), (len(lower) + len(upper), len(lower)))
            self.assertIsNotNone(two_for(seen, low, high))
            for both in range(2, low + high + 1):
                for other in range(1, both):
                    if (both, other) < (low + high, low):
                        self.assertIsNone(two_for(seen, other, both - other))

    def test_kinds(self):
        for seen in PIECES[::9]:
            told = least_two(seen, 40)
            self.assertIs(type(told), tuple if told is not None else type(None))
            self.assertEqual([type(part) for part in told or ()], [int, int] if told else [])


class Beneath(Case):
    def test_by_hand(self):
        self.assertEqual(beneath("xaxb", "x."), "?a?b")
        self.assertEqual(beneath("xa?b", "x."), "?a?b")
        self.assertEqual(beneath("x?x.", "x."), "???.")
        self.assertEqual(beneath("ab.", "."), "ab.")
        self.assertEqual(beneath("aaa", "a"), "???")
        self.assertEqual(beneath("abcab", "ab."), "??c??")

    def test_none_where_a_seen_place_is_unlike(self):
        for seen, rim in (("xayb", "x."), (".a", "x."), ("a", "b"), (".", "b"), ("??b", "a"), ("ab", "aa"), ("xaxa.",
                                                                                                             "x.")):
            self.assertIsNone(beneath(seen, rim))

    def test_of_its_own_sign_nothing_is_known(self):
        self.assertEqual(beneath("xx", "x."), "?x")
        self.assertIsNone(beneath("..", "x."))
        self.assertEqual(beneath("?.", "x."), "?.")

    def test_ends(self):
        self.assertEqual(beneath("?", "a"), "?")
        self.assertEqual(beneath("?" * 300, "ab."), "?" * 300)
        self.assertEqual(beneath("a", "." * 60), "a")
        self.assertEqual(beneath("a", "a" + "b" * 59), "?")
        self.assertEqual(beneath("ab" * 150, "a."), "?b" * 150)
        self.assertIsNone(beneath("ab" * 149 + "ac", ".b"))
        self.assertEqual(beneath("a." * 150, "."), "a." * 150)

    def test_by_the_words(self):
        rims = ("a", ".", "a.", ".b", "ab.", "..a", "." * 60, "a" + "." * 59, ".a.b.")
        for seen in PIECES:
            for rim in rims:
                self.assertEqual(beneath(seen, rim), slow_beneath(seen, rim), (seen, rim))

    def test_beneath_the_wheel_that_printed_it(self):
        for seen, lower, upper in PRINTED:
            left = beneath(seen, upper)
            self.assertEqual(len(left), len(seen))
            self.assertTrue(is_seen_of(left, (lower * 300)[:len(seen)]))
            self.assertTrue(is_seen_of(rim_for(left, len(lower)), lower))

    def test_put_over_it_again(self):
        for seen in PIECES:
            for rim in ("a.", "..a", ".b", "a"):
                left = beneath(seen, rim)
                if left is not None:
                    for low, high, sign in zip(left, rim * 300, seen):
                        self.assertIn(sign, ("?", low if high == "." else high))

    def test_beneath_the_told_upper_rim(self):
        for seen in PIECES:
            told = two_for(seen, 40, 3)
            if told is not None:
                left = beneath(seen, told[1].replace("?", "z"))
                self.assertEqual(rim_for(left, 40), told[0])


class Refused(Case):
    def test_no_seen(self):
        for wrong in NO_PIECES:
            self.refused(NoSeen, two_for, wrong, 1, 1)
            self.refused(NoSeen, least_two, wrong, 1)
            self.refused(NoSeen, beneath, wrong, "a")

    def test_no_number(self):
        for wrong in NO_NUMBERS + (41, 42, 300):
            self.refused(NoNumber, two_for, "ab", wrong, 1)
            self.refused(NoNumber, two_for, "ab", 1, wrong)
            self.refused(NoNumber, two_for, "ab", wrong, wrong)
            self.refused(NoNumber, least_two, "ab", wrong)

    def test_no_press(self):
        for wrong in NO_RIMS:
            self.refused(NoPress, beneath, "ab", wrong)
            self.refused(NoPress, beneath, "?", wrong)

    def test_no_seen_goes_first(self):
        for wrong in NO_PIECES:
            self.refused(NoSeen, two_for, wrong, 0, 41)
            self.refused(NoSeen, two_for, wrong, 1, 41)
            self.refused(NoSeen, two_for, wrong, True, 1)
            self.refused(NoSeen, least_two, wrong, 0)
            self.refused(NoSeen, least_two, wrong, 41)
            self.refused(NoSeen, beneath, wrong, "")
            self.refused(NoSeen, beneath, wrong, None)

    def test_just_not_refused(self):
        for seen in ("a", ".", "?", "z" * 300):
            for lower, upper in ((1, 1), (40, 40), (1, 40), (40, 1)):
                self.assertIsNotNone(two_for(seen, lower, upper))
            self.assertIsNotNone(beneath(seen, "." * 60))
