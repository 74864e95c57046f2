"""Point 2: what is handed in, and what is told."""

import copy
import unittest

from rimprints.apart import first_apart, many_apart, nth_apart, order_matters, turning_of
from rimprints.counts import how_many, nth
from rimprints.errors import NoPress, PrintError
from rimprints.marks import mark_at, piece
from rimprints.presses import parts_in, press_of, reckoned
from rimprints.rounds import plain, press_by, round_of
from rimprints.texts import press_text, read_press
from tests.asked import ALL, all_told
from tests.samples import A, AB, EACH, HUGE, as_lists, as_mixed, made_of_tuples
from tests.slow import short_presses

SOME = EACH + tuple(short_presses(2, 60))


class ListsAndTuples(unittest.TestCase):
    def test_lists_and_tuples_are_the_same_press(self):
        for press in SOME:
            for call in ALL:
                told = call(press)
                self.assertEqual(call(as_lists(press)), told)
                self.assertEqual(call(as_mixed(press)), told)
                self.assertEqual(call(as_mixed(press, 1)), told)

    def test_two_presses(self):
        for one, other in zip(SOME, SOME[1:]):
            for call in (first_apart, turning_of, order_matters):
                told = call(one, other)
                self.assertEqual(call(as_lists(one), as_mixed(other)), told)
                self.assertEqual(call(as_mixed(one, 1), as_lists(other)), told)
                self.assertEqual(call(one, as_lists(other)), told)
            for call in (many_apart, nth_apart):
                self.assertEqual(call(as_lists(one), as_mixed(other), 9), call(one, other, 9))

    def test_mixed_by_hand(self):
        mixed = ["dyed", ("taking", [(["wheel", "ab"], 1), [("wheel", "c"), 2]]), (["a", "b"], ("b", "."))]
        told = ("dyed", ("taking", ((("wheel", "ab"), 1), (("wheel", "c"), 2))), (("a", "b"), ("b", ".")))
        self.assertEqual(press_of(mixed), told)

    def test_told_is_made_of_tuples(self):
        for press in SOME:
            for handed in (press, as_lists(press), as_mixed(press)):
                self.assertEqual(press_of(handed), press)
                self.assertTrue(made_of_tuples(press_of(handed)))
                self.assertTrue(made_of_tuples(reckoned(handed)))
            self.assertTrue(made_of_tuples(read_press(press_text(press))))

    def test_kinds_told(self):
        for press in SOME:
            self.assertIs(type(parts_in(press)), int)
            self.assertIs(type(press_text(press)), str)
            self.assertEqual([type(part) for part in reckoned(press)], [int, int])


class NothingChanged(unittest.TestCase):
    def test_what_was_handed_in_is_as_it_was(self):
        for press in SOME:
            handed = as_lists(press)
            before = copy.deepcopy(handed)
            for call in ALL:
                call(handed)
                self.assertEqual(handed, before)

    def test_what_is_done_later_changes_nothing(self):
        handed = ["over", ["dyed", ["wheel", "ab"], [["a", "b"]]], ["taking", [[["wheel", "c"], 2], [["wheel", "d"], 1]]]]
        told = press_of(handed)
        kept = copy.deepcopy(told)
        handed[1][1][1] = "zz"
        handed[1][2][0][1] = "z"
        handed[1][2].append(["c", "d"])
        handed[2][1][0][1] = 9
        handed[2][1][1][0][0] = "none"
        del handed[0]
        self.assertEqual(told, kept)
        self.assertEqual(told, ("over", ("dyed", AB, (("a", "b"),)), ("taking", ((("wheel", "c"), 2), (("wheel", "d"), 1)))))

    def test_two_presses_are_as_they_were(self):
        for one, other in zip(SOME, SOME[1:]):
            left, right = as_lists(one), as_lists(other)
            first_apart(left, right)
            many_apart(left, right, 9)
            nth_apart(left, right, 9)
            turning_of(left, right)
            order_matters(left, right)
            self.assertEqual((left, right), (as_lists(one), as_lists(other)))

    def test_asked_in_any_order(self):
        """What is asked of one press changes nothing of what is told of another one."""
        told = [all_told(press) for press in SOME]
        self.assertEqual([all_told(press) for press in SOME[::-1]], told[::-1])

    def test_changed_it_is_told_anew(self):
        handed = ["then", ["wheel", "ab"], 3, ["wheel", "xyz"]]
        self.assertEqual((piece(handed, 0, 6), round_of(handed)), ("abaxyz", (3, 3)))
        handed[2] = 1
        self.assertEqual((piece(handed, 0, 6), round_of(handed)), ("axyzxy", (1, 3)))
        handed[3][1] = "xx"
        self.assertEqual((plain(handed), how_many(handed, "x", 9), nth(handed, "x", 9)), (("a", "x"), 8, 10))
        self.assertEqual(mark_at(handed, HUGE), "x")

    def test_changed_it_is_another_press(self):
        handed = ["turned", ["wheel", "ab"], 3]
        self.assertEqual(press_text(handed), "(turned (wheel ab) 3)")
        handed[2] = 4
        self.assertEqual(press_text(handed), "(turned (wheel ab) 4)")
        handed[1][1] = "abc"
        self.assertEqual(reckoned(handed), (0, 3))

    def test_the_same_asked_again(self):
        for press in SOME:
            self.assertEqual(all_told(press), all_told(press))
            text = press_text(press)
            self.assertEqual(read_press(text), read_press(text))

    def test_what_is_told_may_be_handed_in(self):
        for press in SOME:
            self.assertEqual(press_of(press_of(press)), press)
            self.assertEqual(parts_in(read_press(press_text(press))), parts_in(press))


class Numbers(unittest.TestCase):
    def test_a_truth_is_no_whole_number(self):
        for truth in (True, False):
            for press in (("turned", A, truth), ("then", A, truth, A),
                          ("taking", ((A, truth), (A, 1))), ("taking", ((A, 1), (A, truth)))):
                for call in ALL:
                    with self.assertRaises(NoPress):
                        call(press)

    def test_places_and_numbers_of_thirty_figures(self):
        for place in (10 ** 29, HUGE):
            self.assertEqual(piece(("wheel", "abcdefg"), place, 3), ("abcdefg" * 2)[place % 7:place % 7 + 3])
            self.assertEqual(nth(AB, "b", how_many(AB, "b", place)), place // 2 * 2 + 1)
            self.assertEqual(many_apart(A, AB, place), place // 2)

    def test_a_truth_is_no_place_and_no_number(self):
        for truth in (True, False):
            for call in (mark_at, lambda press, wrong: piece(press, 0, wrong), lambda press, wrong: piece(press, wrong, 1),
                         lambda press, wrong: how_many(press, "a", wrong), lambda press, wrong: nth(press, "a", wrong),
                         lambda press, wrong: many_apart(press, press, wrong),
                         lambda press, wrong: nth_apart(press, press, wrong)):
                with self.assertRaises(PrintError):
                    call(A, truth)

    def test_thirty_figures(self):
        for many in (10 ** 29, HUGE):
            for press in (("turned", A, many), ("then", A, many, AB), ("taking", ((A, many), (AB, many)))):
                self.assertEqual(press_of(press), press)
                self.assertEqual(read_press(press_text(press)), press)

    def test_more_than_thirty_figures(self):
        press = ("turned", A, 10 ** 45)
        self.assertEqual(press_of(press), press)

    def test_told_numbers_of_any_size(self):
        many = 7
        for _ in range(5):
            press = ("taking", ((("then", A, many * HUGE, A), 1), (AB, many * HUGE)))
            many = reckoned(press)[0]
            turned = ("turned", A, many)
            self.assertEqual(read_press(press_text(turned)), turned)

    def test_thousands_of_figures(self):
        many = int("3" * 4000) * 10 ** 4000 + 12
        press = ("turned", A, many)
        figures = "3" * 4000 + "0" * 3998 + "12"
        self.assertEqual(press_text(press), f"(turned (wheel a) {figures})")
        self.assertEqual(read_press(f"(turned (wheel a) {figures})"), press)


class ToldAgain(unittest.TestCase):
    def test_what_is_told_of_a_press_is_asked_of_it_again(self):
        for press in SOME:
            place = nth(press, None, HUGE ** 3)
            if place is not None:
                self.assertEqual(how_many(press, None, place), HUGE ** 3)
                self.assertNotEqual(mark_at(press, place), ".")
                self.assertEqual(piece(press, place, 1), mark_at(press, place))
                self.assertEqual(nth(press, None, place) is None, False)
                turned = ("turned", press, place)
                self.assertEqual(read_press(press_text(turned)), turned)
                self.assertEqual(mark_at(turned, 0), mark_at(press, place))

    def test_reckoned_numbers_as_places(self):
        press = ("taking", ((("then", A, HUGE, AB), 7), (("wheel", "xyz"), HUGE)))
        begin, length = reckoned(press)
        self.assertEqual(piece(press, begin, 50), piece(press, begin + length, 50))
        self.assertEqual(piece(press, begin * HUGE + 3, 50), piece(press, begin * HUGE + 3 + length * HUGE, 50))

    def test_plain_texts_of_thousands_of_marks(self):
        wide = ("over", ("wheel", "ab" + "." * 95), ("wheel", "b" + "." * 100))
        press = ("then", ("wheel", "xyz"), 9000, wide)
        told = press_by(*plain(press))
        self.assertEqual(told, ("then", ("wheel", "xyz" * 3000), 9000, ("wheel", plain(wide)[1])))
        for call in ALL:
            if call not in (parts_in, reckoned, press_text, press_of):
                self.assertEqual(call(told), call(press))
        self.assertEqual((parts_in(told), reckoned(told), press_of(as_lists(told))), (3, (9000, 9797), told))
        self.assertEqual(read_press(press_text(told)), told)
        self.assertIsNone(first_apart(told, press))
        self.assertEqual((many_apart(told, press, HUGE), nth_apart(press, told, 0)), (0, None))
        self.assertEqual((turning_of(press, told), order_matters(told, press)), (0, None))
        turned = ("turned", ("held", told, ("over", A, told)), 12345)
        self.assertEqual(piece(turned, 0, 2000), piece(press, 12345, 2000))
        self.assertEqual(turning_of(told, press_by(*plain(turned))), 12345)

    def test_plain_of_the_longest(self):
        press = ("then", ("wheel", "xyz"), 50000, ("wheel", "a" * 49999 + "b"))
        told = press_by(*plain(press))
        self.assertEqual(plain(told), plain(press))
        self.assertEqual(read_press(press_text(told)), told)
        self.assertEqual(nth(told, "b", HUGE), 50000 * HUGE + 99999)
        self.assertIsNone(first_apart(told, press))


class Rims(unittest.TestCase):
    def test_rims_longer_than_sixty_marks(self):
        for many in (60, 61, 100, 5000):
            press = ("wheel", "a" * many)
            self.assertEqual(press_of(press), press)
            self.assertEqual(reckoned(press), (0, many))
            self.assertEqual(read_press(press_text(press)), press)

    def test_texts_longer_than_two_thousand_signs(self):
        text = "(over (wheel " + "ab." * 900 + ") (wheel " + "z" * 900 + "))"
        self.assertEqual(press_text(read_press(text)), text)
