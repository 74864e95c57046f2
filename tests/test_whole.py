"""Points 1 to 4 over the seen pieces and the desk: what is handed in, what is told, and one stage by another."""

import unittest

from rimprints.apart import first_apart
from rimprints.desk import Desk
from rimprints.errors import PrintError
from rimprints.marks import piece
from rimprints.one import least_spoilt, lengths_for, rim_for, spoilt_for
from rimprints.presses import press_of
from rimprints.rounds import plain, press_by, round_of
from rimprints.several import known_from
from rimprints.texts import press_text, read_press
from rimprints.two import beneath, least_two, two_for
from tests.samples import A, AB, EACH, HUGE
from tests.seeing import drawn, is_seen_of
from tests.slow import short_presses

SOME = EACH + tuple(short_presses(111, 60))
PIECES = drawn(112, 40) + ["?", ".", "a", "?" * 300, "abc" * 100]
CALLS = (
    lambda seen: lengths_for(seen, 40),
    lambda seen: rim_for(seen, 7),
    lambda seen: spoilt_for(seen, 7),
    lambda seen: least_spoilt(seen, 40),
    lambda seen: two_for(seen, 3, 4),
    lambda seen: least_two(seen, 12),
    lambda seen: beneath(seen, "a.."),
    lambda seen: known_from([seen, "a?b"], 6),
    lambda seen: known_from((seen,), 10),
)


def all_told(seen):
    return [call(seen) for call in CALLS]


def on_a_desk(press):
    desk = Desk()
    desk.say("put x " + press_text(press))
    return [desk.say(row) for row in ("names", "text x", f"show x {HUGE} 40", "round x", f"many x * {HUGE}", "nth x a 9",
                                      "put y (over x (wheel a.))", "apart x y", "undo", "names")]


class Again(unittest.TestCase):
    def test_the_same_asked_again_and_in_any_order(self):
        told = [all_told(seen) for seen in PIECES]
        self.assertEqual([all_told(seen) for seen in PIECES[::-1]], told[::-1])
        desks = [on_a_desk(press) for press in SOME]
        self.assertEqual([on_a_desk(press) for press in SOME[::-1]], desks[::-1])
        self.assertEqual([all_told(seen) for seen in PIECES], told)

    def test_the_same_behind_refusals(self):
        for seen in PIECES[:10]:
            told = all_told(seen)
            for call, given in ((lengths_for, (seen, 41)), (rim_for, (seen, 0)), (two_for, (seen, 1, True)),
                                (least_two, (seen, None)), (beneath, (seen, "?")), (known_from, ([seen, ""], 3)),
                                (known_from, ([seen], 11))):
                self.assertRaises(PrintError, call, *given)
            self.assertEqual(all_told(seen), told)

    def test_what_is_done_to_told_lists_changes_nothing(self):
        for seen in PIECES:
            lists = [lengths_for(seen, 40), known_from([seen], 10), known_from([seen, "a"], 4)]
            kept = [list(told) for told in lists]
            for told in lists:
                told.append("more")
                told.reverse()
            self.assertEqual([lengths_for(seen, 40), known_from([seen], 10), known_from([seen, "a"], 4)], kept)

    def test_what_is_done_to_lists_that_were_handed_in_changes_nothing(self):
        pieces = ["ab", "bc"]
        told = known_from(pieces, 3)
        pieces[1] = "ac"
        pieces.append("z")
        self.assertEqual(told, ["abc"])
        self.assertEqual(pieces, ["ab", "ac", "z"])
        self.assertEqual(known_from(["ab", "bc"], 3), ["abc"])


class OneByAnother(unittest.TestCase):
    def test_printed_pieces_are_seen_pieces(self):
        for press in SOME:
            begin, length = round_of(press)
            seen = piece(press, begin, 300)
            lap = plain(press)[1]
            if length <= 40:
                self.assertEqual(lengths_for(seen, 40), list(range(length, 41, length)))
                self.assertEqual(rim_for(seen, length), lap)
                self.assertEqual(least_spoilt(seen, 40), (0, length, lap))
                self.assertIsNone(first_apart(("wheel", lap), ("turned", press, begin)))

    def test_pieces_from_far_places(self):
        for press in SOME:
            length = round_of(press)[1]
            if length <= 10:
                pieces = [piece(press, HUGE + at, 30) for at in (0, 3, 7)]
                lap = plain(press)[1]
                self.assertEqual(known_from(pieces, length), [min(lap[at:] + lap[:at] for at in range(length))])

    def test_two_wheels_over_one_another(self):
        press = ("over", ("wheel", "abcde"), ("wheel", "x.."))
        seen = piece(press, 0, 300)
        lower, upper = two_for(seen, *least_two(seen, 40))
        self.assertIsNone(first_apart(press, ("over", ("wheel", lower), ("wheel", upper))))
        self.assertEqual(rim_for(beneath(seen, upper), len(lower)), lower)

    def test_of_two_thousand_places(self):
        seen = piece(("over", ("wheel", "abcdefg"), ("wheel", "x..y.")), 35 * HUGE, 2000)
        self.assertEqual(lengths_for(seen, 40), [35])
        self.assertEqual(least_two(seen, 40), (7, 5))
        self.assertEqual(two_for(seen, 7, 5), ("abcdefg", "x..y."))
        self.assertEqual(rim_for(beneath(seen, "x..y."), 7), "abcdefg")
        self.assertEqual(least_spoilt(seen[:-1] + "z", 40)[:2], (1, 35))

    def test_of_any_size_that_is_told(self):
        ahead, lap = plain(("then", ("wheel", "abc"), 50000, ("wheel", "x" * 49999 + "z")))
        self.assertEqual(lengths_for(ahead, 8), [3, 6])
        self.assertEqual(rim_for(ahead, 3), "abc")
        self.assertEqual(least_two(ahead, 3), (1, 3))
        self.assertEqual(spoilt_for(lap, 40), (1, "x" * 40))
        self.assertEqual(beneath(lap, lap), "?" * 50000)
        self.assertEqual(beneath("xx?", lap), "???")
        self.assertIsNone(beneath(lap, ahead))
        self.assertEqual(known_from([ahead, "ca?ca"], 6), ["abcabc"])
        self.assertEqual(known_from([ahead, "ca?bc"], 6), [])

    def test_told_rims_are_seen_pieces(self):
        for seen in PIECES:
            for length in (1, 3, 10):
                rim = rim_for(seen, length)
                if rim is not None:
                    self.assertEqual(rim_for(rim, length), rim)
                    self.assertEqual(known_from([rim], length), known_from([seen], length))

    def test_whole_rims_that_are_told_are_wheels(self):
        for press in SOME:
            seen = piece(press, 5, 120)
            rim = spoilt_for(seen, 12)[1]
            self.assertEqual(press_of(["wheel", rim]), ("wheel", rim))
            self.assertEqual(press_by("", rim), ("wheel", rim))
            left = beneath(piece(("wheel", rim), 0, 60), rim)
            self.assertTrue(is_seen_of(left, "." * 60))

    def test_a_desk_is_handed_what_is_told(self):
        for press in SOME:
            desk = Desk()
            told = press_by(*plain(press))
            desk.say("put x " + press_text(told))
            self.assertEqual(read_press(desk.say("text x")), told)
            desk.say("put y " + press_text(press))
            self.assertEqual(desk.say("apart x y"), "none")
            self.assertEqual(rim_for(desk.say("show y 0 300"), 40), rim_for(piece(press, 0, 300), 40))

    def test_a_desk_of_long_texts(self):
        told = press_by(*plain(("then", ("wheel", "xyz"), 40000, ("wheel", "a" * 49999 + "b"))))
        desk = Desk()
        self.assertEqual(desk.say("put x " + press_text(told)), "3")
        self.assertEqual(desk.say("put y (then (wheel xyz) 40000 (turned x 40000))"), "6")
        self.assertEqual(desk.say("apart x y"), "none")
        self.assertEqual(desk.say("text x"), press_text(told))
        self.assertEqual(desk.say(f"nth x b {HUGE}"), str(40000 + 49999 + 50000 * HUGE))

    def test_nothing_is_kept_of_presses(self):
        press = ["over", ["wheel", "ab"], ["wheel", "x."]]
        desk = Desk()
        desk.say("put x " + press_text(press))
        press[1][1] = "zz"
        self.assertEqual(desk.say("show x 0 4"), "xbxb")
        self.assertEqual(press_of(A), A)
        self.assertEqual(press_of(AB), AB)
