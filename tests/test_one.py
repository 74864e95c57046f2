"""Points 14 and 15: one wheel, all that can have printed a seen piece, and one with the fewest spoilt places."""

import unittest

from rimprints.errors import NoNumber, NoSeen, PrintError
from rimprints.marks import piece
from rimprints.one import least_spoilt, lengths_for, rim_for, spoilt_for
from tests.seeing import NO_NUMBERS, NO_PIECES, all_rims, can_have_printed, drawn, is_seen_of, printed, rolled, slow_rim
from tests.seeing import slow_spoilt

CALLS = (lengths_for, rim_for, spoilt_for, least_spoilt)
ALL_LENGTHS = list(range(1, 41))
DRAWN = drawn(71, 150) + drawn(72, 60, "ab??????", 40) + drawn(73, 40, "ab.cd?", 6)
PRINTED = printed(74, 80) + printed(75, 20, longest=40, most=300)
PIECES = DRAWN + [seen for seen, _ in PRINTED]


class Case(unittest.TestCase):
    def refused(self, error, call, *given):
        with self.subTest(call=call, given=given), self.assertRaises(PrintError) as caught:
            call(*given)
        self.assertIs(type(caught.exception), error)


class Lengths(Case):
    def test_by_hand(self):
        self.assertEqual(lengths_for("abab", 5), [2, 4, 5])
        self.assertEqual(lengths_for("a?ba", 4), [3, 4])
        self.assertEqual(lengths_for("ab.ab.a", 7), [3, 6, 7])
        self.assertEqual(lengths_for("aaa", 3), [1, 2, 3])
        self.assertEqual(lengths_for("aab", 2), [])
        self.assertEqual(lengths_for("a.", 1), [])
        self.assertEqual(lengths_for("a.", 2), [2])

    def test_unseen_places_fit_any_length(self):
        self.assertEqual(lengths_for("a????b", 6), [2, 3, 4, 6])
        self.assertEqual(lengths_for("a????a", 6), [1, 2, 3, 4, 5, 6])

    def test_multiples_of_the_length_that_are_unseen_between(self):
        self.assertEqual(lengths_for("a?????????b", 10), [3, 4, 6, 7, 8, 9])

    def test_ends_of_the_most(self):
        self.assertEqual(lengths_for("a", 1), [1])
        self.assertEqual(lengths_for("ab", 1), [])
        self.assertEqual(lengths_for("ab", 40), ALL_LENGTHS[1:])
        forty = "a" * 39 + "b"
        self.assertEqual(lengths_for(forty * 7, 40), [40])
        self.assertEqual(lengths_for(forty * 7, 39), [])
        self.assertEqual(lengths_for(forty + "a", 40), [40])
        self.assertEqual(lengths_for("a" * 40 + "b", 40), [])

    def test_pieces_of_one_place(self):
        for seen in "a.?z":
            self.assertEqual(lengths_for(seen, 40), ALL_LENGTHS)
            self.assertEqual(lengths_for(seen, 1), [1])

    def test_pieces_of_three_hundred_places(self):
        self.assertEqual(lengths_for("abc" * 100, 40), list(range(3, 40, 3)))
        self.assertEqual(lengths_for("abc" * 99 + "abb", 40), [])
        self.assertEqual(lengths_for("?" * 299 + "a", 40), ALL_LENGTHS)
        self.assertEqual(lengths_for("a" + "?" * 298 + "b", 40), [length for length in ALL_LENGTHS if 299 % length])

    def test_nothing_seen(self):
        for many in (1, 2, 40, 300):
            self.assertEqual(lengths_for("?" * many, 40), ALL_LENGTHS)

    def test_just_those_by_the_words(self):
        for seen in PIECES:
            told = lengths_for(seen, 40)
            self.assertEqual(told, [length for length in ALL_LENGTHS if can_have_printed(seen, length)], seen)
            for most in (1, 2, 7, 39):
                self.assertEqual(lengths_for(seen, most), [length for length in told if length <= most], seen)

    def test_the_wheel_that_printed_it_is_among_them(self):
        for seen, rim in PRINTED:
            for length in range(len(rim), 41, len(rim)):
                self.assertIn(length, lengths_for(seen, 40))

    def test_told_is_a_list_of_ones_own(self):
        for seen in PIECES[:20]:
            told = lengths_for(seen, 40)
            self.assertIs(type(told), list)
            kept = list(told)
            told.append(41)
            told[0] = None
            self.assertEqual(lengths_for(seen, 40), kept)


class Rims(Case):
    def test_by_hand(self):
        self.assertEqual(rim_for("abab", 2), "ab")
        self.assertEqual(rim_for("abab", 4), "abab")
        self.assertIsNone(rim_for("abab", 3))
        self.assertEqual(rim_for("a?.a?.", 3), "a?.")
        self.assertIsNone(rim_for("a??b?.", 3))
        self.assertEqual(rim_for("a????.", 2), "a.")
        self.assertEqual(rim_for("??b?a?", 3), "?ab")
        self.assertIsNone(rim_for("??b?a?", 2))
        self.assertEqual(rim_for("??b?a?", 4), "a?b?")

    def test_no_mark_as_any_other_sign(self):
        self.assertEqual(rim_for("..", 1), ".")
        self.assertIsNone(rim_for("a.", 1))
        self.assertIsNone(rim_for(".a", 1))
        self.assertEqual(rim_for("?.", 1), ".")

    def test_longer_than_the_piece(self):
        self.assertEqual(rim_for("ab", 5), "ab???")
        self.assertEqual(rim_for("a", 40), "a" + "?" * 39)
        self.assertEqual(rim_for("a" * 41, 40), "a" * 40)

    def test_ends(self):
        self.assertEqual(rim_for("a", 1), "a")
        self.assertEqual(rim_for("z?z?z", 1), "z")
        self.assertEqual(rim_for("?", 1), "?")
        self.assertEqual(rim_for("?" * 300, 40), "?" * 40)
        self.assertEqual(rim_for("abc" * 100, 3), "abc")
        self.assertIsNone(rim_for("abc" * 99 + "abb", 3))
        self.assertEqual(rim_for("?" * 299 + "a", 40), "?" * 19 + "a" + "?" * 20)

    def test_just_those_by_the_words(self):
        for seen in PIECES:
            for length in ALL_LENGTHS:
                told = rim_for(seen, length)
                self.assertEqual(told, slow_rim(seen, length), (seen, length))
                self.assertEqual(told is not None, length in lengths_for(seen, length), (seen, length))

    def test_told_is_what_all_that_can_have_printed_it_have(self):
        for seen in DRAWN[:60]:
            for length in (1, 2, 3, 4):
                able = [rim for rim in all_rims(length, "ab.") if is_seen_of(seen, rolled(rim, 0, len(seen)))]
                told = rim_for(seen, length)
                self.assertEqual(told is None, able == [])
                if able:
                    in_all = [signs[0] if len(set(signs)) == 1 else "?" for signs in zip(*able)]
                    self.assertEqual(told, "".join(in_all), seen)

    def test_printed_again(self):
        for seen, rim in PRINTED:
            told = rim_for(seen, len(rim))
            self.assertTrue(is_seen_of(told, rim))
            for sign in "a.z":
                whole = ("wheel", told.replace("?", sign))
                self.assertTrue(is_seen_of(seen, piece(whole, 0, len(seen))))

    def test_kinds(self):
        for seen in PIECES:
            self.assertIn(type(rim_for(seen, 3)), (str, type(None)))


class Spoilt(Case):
    def test_by_hand(self):
        self.assertEqual(spoilt_for("aab", 1), (1, "a"))
        self.assertEqual(spoilt_for("aab?b", 2), (1, "ba"))
        self.assertEqual(spoilt_for("abcabcabd", 3), (1, "abc"))
        self.assertEqual(spoilt_for("abab", 2), (0, "ab"))
        self.assertEqual(spoilt_for("abc", 1), (2, "a"))
        self.assertEqual(spoilt_for("a.b.b.", 2), (1, "b."))

    def test_of_several_as_often_the_first(self):
        self.assertEqual(spoilt_for("ba", 1), (1, "a"))
        self.assertEqual(spoilt_for("a.", 1), (1, "."))
        self.assertEqual(spoilt_for(".a", 1), (1, "."))
        self.assertEqual(spoilt_for("zzyy", 1), (2, "y"))
        self.assertEqual(spoilt_for("zyx.zyx.", 1), (6, "."))
        self.assertEqual(spoilt_for("cba?bca", 1), (4, "a"))
        self.assertEqual(spoilt_for("bbaac", 1), (3, "a"))
        self.assertEqual(spoilt_for("cbcb.", 1), (3, "b"))

    def test_unseen_places_are_not_spoilt_and_not_often(self):
        self.assertEqual(spoilt_for("????a", 1), (0, "a"))
        self.assertEqual(spoilt_for("a????b", 1), (1, "a"))
        self.assertEqual(spoilt_for("a?b?", 2), (1, "a?"))

    def test_ends(self):
        self.assertEqual(spoilt_for("?", 1), (0, "?"))
        self.assertEqual(spoilt_for("?" * 300, 40), (0, "?" * 40))
        self.assertEqual(spoilt_for("a", 40), (0, "a" + "?" * 39))
        self.assertEqual(spoilt_for("." * 300, 1), (0, "."))
        self.assertEqual(spoilt_for("ab" * 150, 1), (150, "a"))
        self.assertEqual(spoilt_for("ab" * 149 + "ba", 2), (2, "ab"))

    def test_by_the_words(self):
        for seen in PIECES:
            for length in (1, 2, 3, 4, 5, 7, 12, 39, 40):
                self.assertEqual(spoilt_for(seen, length), slow_spoilt(seen, length), (seen, length))

    def test_none_spoils_fewer(self):
        for seen in DRAWN[:60]:
            for length in (1, 2, 3):
                many = [sum(sign not in ("?", mark) for sign, mark in zip(seen, rolled(rim, 0, len(seen))))
                        for rim in all_rims(length, "ab.")]
                self.assertEqual(spoilt_for(seen, length)[0], min(many), seen)

    def test_none_is_spoilt_just_where_a_wheel_can_have_printed_it(self):
        for seen in PIECES:
            for length in (1, 2, 3, 6, 40):
                many, rim = spoilt_for(seen, length)
                self.assertEqual(many == 0, rim_for(seen, length) is not None)
                if many == 0:
                    self.assertEqual(rim, rim_for(seen, length))

    def test_kinds(self):
        for seen in PIECES:
            self.assertIs(type(spoilt_for(seen, 3)), tuple)
            self.assertEqual([type(part) for part in spoilt_for(seen, 3)], [int, str])
            self.assertIs(type(least_spoilt(seen, 3)), tuple)
            self.assertEqual([type(part) for part in least_spoilt(seen, 3)], [int, int, str])


class LeastSpoilt(Case):
    def test_by_hand(self):
        self.assertEqual(least_spoilt("abab", 4), (0, 2, "ab"))
        self.assertEqual(least_spoilt("abab", 1), (2, 1, "a"))
        self.assertEqual(least_spoilt("abcabdabc", 4), (1, 3, "abc"))
        self.assertEqual(least_spoilt("aab", 2), (1, 1, "a"))
        self.assertEqual(least_spoilt("aabaab", 40), (0, 3, "aab"))

    def test_the_least_such_length(self):
        self.assertEqual(least_spoilt("aaaa", 40), (0, 1, "a"))
        self.assertEqual(least_spoilt("ab", 40), (0, 2, "ab"))
        self.assertEqual(least_spoilt("abcdef", 5), (1, 5, "abcde"))
        self.assertEqual(least_spoilt("abcdef", 4), (2, 4, "abcd"))
        self.assertEqual(least_spoilt("abba", 2), (2, 1, "a"))

    def test_ends(self):
        self.assertEqual(least_spoilt("?", 1), (0, 1, "?"))
        self.assertEqual(least_spoilt("?" * 300, 40), (0, 1, "?"))
        self.assertEqual(least_spoilt("a", 40), (0, 1, "a"))
        forty = "a" * 39 + "b"
        self.assertEqual(least_spoilt(forty * 7 + "a" * 20, 40), (0, 40, forty))
        self.assertEqual(least_spoilt(forty * 7 + "a" * 20, 39), (7, 1, "a"))

    def test_by_the_words(self):
        for seen in PIECES:
            all_told = [(slow_spoilt(seen, length)[0], length, slow_spoilt(seen, length)[1]) for length in ALL_LENGTHS]
            for most in (1, 2, 3, 5, 11, 40):
                self.assertEqual(least_spoilt(seen, most), min(all_told[:most]), seen)

    def test_of_printed_pieces_with_one_place_spoilt(self):
        for seen, rim in PRINTED:
            spoilt = seen[:-1] + "z"
            many, length, told = least_spoilt(spoilt, 40)
            self.assertLessEqual(many, 1)
            self.assertEqual((many, told), spoilt_for(spoilt, length))
            self.assertLessEqual(spoilt_for(spoilt, len(rim))[0], 1)


class Refused(Case):
    def test_no_seen(self):
        for call in CALLS:
            for wrong in NO_PIECES:
                self.refused(NoSeen, call, wrong, 3)

    def test_no_number(self):
        for call in CALLS:
            for wrong in NO_NUMBERS + (41, 42, 300):
                self.refused(NoNumber, call, "ab", wrong)
                self.refused(NoNumber, call, "?", wrong)

    def test_no_seen_ahead_of_no_number(self):
        for call in CALLS:
            for wrong in NO_PIECES:
                for length in (0, 41, True, None):
                    self.refused(NoSeen, call, wrong, length)

    def test_just_not_refused(self):
        for call in CALLS:
            for length in (1, 40):
                for seen in ("a", "z", ".", "?", "a" * 300):
                    self.assertIsNotNone(call(seen, length))
