"""Point 18: several strips, and all rims of one wheel that can have printed them."""

import itertools
import random
import unittest

from rimprints.errors import NoNumber, NoSeen, PrintError
from rimprints.one import rim_for
from rimprints.several import known_from
from tests.seeing import NO_NUMBERS, NO_PIECES, all_rims, drawn, is_seen_of, rolled, slow_known, veiled

PIECES = drawn(91, 60, "ab.?", 5) + drawn(92, 60, "ab??", 12) + drawn(93, 30, "abc.???", 20)
SINGLE = [[seen] for seen in PIECES]
PAIRS = [list(pair) for pair in zip(PIECES, PIECES[1:])]
THREES = [list(three) for three in zip(PIECES, PIECES[3:], PIECES[7:])]


def strips_of(seed, many, most=40):
    """So many (pieces, rim): one to three strips that one wheel has printed, each from some place of its rim on."""
    dice = random.Random(seed)
    told = []
    for _ in range(many):
        rim = "".join(dice.choice("abc.") for _ in range(dice.randint(1, 10)))
        pieces = [veiled(dice, rolled(rim, dice.randint(0, 9), dice.randint(1, most)),
                         0.4) for _ in range(dice.randint(1, 3))]
        told.append((pieces, rim))
    return told


def least(rim):
    return min(rim[at:] + rim[:at] for at in range(len(rim)))


class Case(unittest.TestCase):
    def refused(self, error, *given):
        with self.subTest(given=given), self.assertRaises(PrintError) as caught:
            known_from(*given)
        self.assertIs(type(caught.exception), error)


class Known(Case):
    def test_one_piece(self):
        self.assertEqual(known_from(["ab"], 3), ["?ab"])
        self.assertEqual(known_from(["ba"], 2), ["ab"])
        self.assertEqual(known_from(["a.b"], 3), [".ba"])
        self.assertEqual(known_from(["abcab?a"], 3), ["abc"])
        self.assertEqual(known_from(["a"], 10), ["?????????a"])

    def test_two_pieces(self):
        self.assertEqual(known_from(["ab", "bc"], 3), ["abc"])
        self.assertEqual(known_from(["ab", "ba"], 2), ["ab"])
        self.assertEqual(known_from(["a", "b"], 2), ["ab"])
        self.assertEqual(known_from(["a", "a"], 2), ["?a", "aa"])
        self.assertEqual(known_from(["ab", "c"], 4), ["?abc", "?cab"])
        self.assertEqual(known_from(["ab", "ab"], 4), ["??ab", "abab"])

    def test_three_pieces(self):
        self.assertEqual(known_from(["a", "b", "c"], 3), ["abc", "acb"])
        self.assertEqual(known_from(["ab", "bc", "ca"], 3), ["abc"])
        self.assertEqual(known_from(["a", "a", "a"], 3), ["??a", "?aa", "aaa"])
        self.assertEqual(known_from(["a?b", "b?a", "c"], 4), ["?acb", "?bca"])

    def test_sorted_as_texts_are(self):
        self.assertEqual(known_from([".", "?"], 2), [".?"])
        self.assertEqual(known_from(["a", "."], 2), [".a"])
        self.assertEqual(known_from(["a", "."], 3), [".?a", ".a?"])
        self.assertEqual(known_from([".", "."], 3), ["..?", ".??"])

    def test_none(self):
        self.assertEqual(known_from(["a", "b"], 1), [])
        self.assertEqual(known_from(["aab"], 2), [])
        self.assertEqual(known_from(["a", "aab"], 2), [])
        self.assertEqual(known_from(["aab", "a"], 2), [])
        self.assertEqual(known_from(["a", "b", "."], 2), [])
        self.assertEqual(known_from(["ab", "ac"], 2), [])

    def test_nothing_seen(self):
        for length in range(1, 11):
            for pieces in (["?"], ["?" * 300], ["?", "??", "?" * 40]):
                self.assertEqual(known_from(pieces, length), ["?" * length])
            self.assertEqual(known_from(["?", "a", "??"], length), ["?" * (length - 1) + "a"])

    def test_each_once(self):
        for pieces in (["a", "a", "b"], ["abab", "ba"], ["?a", "a?", "a"]):
            for length in range(1, 11):
                told = known_from(pieces, length)
                self.assertEqual(told, sorted(set(told)))
                self.assertEqual([least(rim) for rim in told], told)

    def test_three_hundred_places(self):
        rim = "abcabd.a.b"
        pieces = [rolled(rim, 0, 300), rolled(rim, 7, 299), rolled(rim, 3, 1)]
        self.assertEqual(known_from(pieces, 10), [least(rim)])
        self.assertEqual(known_from(pieces, 9), [])
        self.assertEqual(known_from([pieces[0][:-1] + "z", "a"], 10), [])

    def test_by_the_words(self):
        for pieces in SINGLE + PAIRS:
            for length in range(1, 11):
                self.assertEqual(known_from(pieces, length), slow_known(pieces, length), (pieces, length))
        for pieces in THREES:
            for length in (1, 2, 3, 4, 5, 6):
                self.assertEqual(known_from(pieces, length), slow_known(pieces, length), (pieces, length))
        for pieces in THREES[::20]:
            for length in (9, 10):
                self.assertEqual(known_from(pieces, length), slow_known(pieces, length), (pieces, length))

    def test_whatever_their_order(self):
        for pieces in THREES[:60]:
            told = known_from(pieces, 5)
            for other in itertools.permutations(pieces):
                self.assertEqual(known_from(list(other), 5), told)

    def test_those_that_printed_it_are_not_left_out(self):
        for pieces, rim in strips_of(94, 60):
            told = known_from(pieces, len(rim))
            turned = [rim[at:] + rim[:at] for at in range(len(rim))]
            self.assertTrue(any(is_seen_of(known, turning) for known in told for turning in turned), (pieces, rim))

    def test_just_those_rims_can_have_printed_them(self):
        """A whole rim can have printed all pieces just where it is of one of the told rims, turned."""
        for pieces in PAIRS[:60]:
            for length in (1, 2, 3, 4):
                told = known_from(pieces, length)
                for rim in all_rims(length, "ab."):
                    able = all(any(is_seen_of(seen, rolled(rim, at,
                                                           len(seen))) for at in range(length)) for seen in pieces)
                    turned = [rim[at:] + rim[:at] for at in range(length)]
                    self.assertEqual(any(is_seen_of(known, turning) for known in told for turning in turned), able)

    def test_one_piece_is_the_rim_of_one_wheel(self):
        for seen in PIECES:
            for length in (1, 2, 5, 10):
                rim = rim_for(seen, length)
                self.assertEqual(known_from([seen], length), [] if rim is None else [least(rim)])


class Handed(Case):
    def test_a_tuple_or_a_list(self):
        for pieces in PAIRS[:30]:
            self.assertEqual(known_from(tuple(pieces), 4), known_from(pieces, 4))

    def test_what_was_handed_in_is_as_it_was(self):
        for pieces in PAIRS[:30] + THREES[:30]:
            kept = list(pieces)
            known_from(pieces, 5)
            self.assertEqual(pieces, kept)

    def test_told_is_a_list_of_ones_own(self):
        for pieces in PAIRS[:30] + [["a", "b"], ["?"], ["aab"]]:
            told = known_from(pieces, 2)
            self.assertIs(type(told), list)
            self.assertTrue(all(type(rim) is str for rim in told))
            kept = list(told)
            told.append("zz")
            pieces_kept = list(pieces)
            self.assertEqual(known_from(pieces, 2), kept)
            self.assertEqual(pieces, pieces_kept)

    def test_told_rims_handed_in_again(self):
        for pieces in PAIRS[:40]:
            for rim in known_from(pieces, 6):
                self.assertEqual(known_from([rim], 6), [rim])
                self.assertIn(rim, known_from([rim, *pieces], 6))


class Refused(Case):
    def test_no_seen(self):
        for wrong in NO_PIECES:
            self.refused(NoSeen, [wrong], 3)
            self.refused(NoSeen, [wrong, "a"], 3)
            self.refused(NoSeen, ["a", wrong], 3)
            self.refused(NoSeen, ["a", "b", wrong], 1)
            self.refused(NoSeen, ["aab", wrong], 2)

    def test_none_seen(self):
        self.refused(NoSeen, [], 3)
        self.refused(NoSeen, (), 3)

    def test_no_list(self):
        for wrong in (None, 0, True, "a", "", "ab", {}, b"a"):
            self.refused(NoSeen, wrong, 3)

    def test_no_number(self):
        for wrong in NO_NUMBERS + (11, 12, 40, 41):
            self.refused(NoNumber, ["a"], wrong)
            self.refused(NoNumber, ["?", "b", "."], wrong)

    def test_no_seen_ahead_of_no_number(self):
        for wrong in (0, 11, True, None):
            self.refused(NoSeen, [], wrong)
            self.refused(NoSeen, ["a", ""], wrong)
            self.refused(NoSeen, ["A", "a"], wrong)
            self.refused(NoSeen, None, wrong)

    def test_just_not_refused(self):
        for length in (1, 10):
            self.assertEqual(known_from(["a"], length), ["?" * (length - 1) + "a"])
