"""Point 2: what is handed in, and what is told."""

import copy
import unittest

from rimprints.errors import NoPress
from rimprints.presses import parts_in, press_of, reckoned
from rimprints.texts import press_text, read_press
from tests.samples import A, AB, EACH, HUGE, as_lists, as_mixed, made_of_tuples, presses

CALLS = (press_of, parts_in, reckoned, press_text)
SOME = EACH + tuple(presses(2, 60))


class ListsAndTuples(unittest.TestCase):
    def test_lists_and_tuples_are_the_same_press(self):
        for press in SOME:
            for call in CALLS:
                told = call(press)
                self.assertEqual(call(as_lists(press)), told)
                self.assertEqual(call(as_mixed(press)), told)
                self.assertEqual(call(as_mixed(press, 1)), told)

    def test_mixed_by_hand(self):
        mixed = ["dyed", ("taking", [(["wheel", "ab"], 1), [("wheel", "c"), 2]]), (["a", "b"], ("b", "."))]
        told = ("dyed", ("taking", ((("wheel", "ab"), 1), (("wheel", "c"), 2))), (("a", "b"), ("b", ".")))
        self.assertEqual(press_of(mixed), told)

    def test_told_is_made_of_tuples(self):
        for press in SOME:
            for handed in (press, as_lists(press), as_mixed(press)):
                self.assertEqual(press_of(handed), press)
                self.assertTrue(made_of_tuples(press_of(handed)))
                self.assertTrue(made_of_tuples(reckoned(handed)))
            self.assertTrue(made_of_tuples(read_press(press_text(press))))

    def test_kinds_told(self):
        for press in SOME:
            self.assertIs(type(parts_in(press)), int)
            self.assertIs(type(press_text(press)), str)
            self.assertEqual([type(part) for part in reckoned(press)], [int, int])


class NothingChanged(unittest.TestCase):
    def test_what_was_handed_in_is_as_it_was(self):
        for press in SOME:
            handed = as_lists(press)
            before = copy.deepcopy(handed)
            for call in CALLS:
                call(handed)
                self.assertEqual(handed, before)

    def test_what_is_done_later_changes_nothing(self):
        handed = ["over", ["dyed", ["wheel", "ab"], [["a", "b"]]], ["taking", [[["wheel", "c"], 2], [["wheel", "d"], 1]]]]
        told = press_of(handed)
        kept = copy.deepcopy(told)
        handed[1][1][1] = "zz"
        handed[1][2][0][1] = "z"
        handed[1][2].append(["c", "d"])
        handed[2][1][0][1] = 9
        handed[2][1][1][0][0] = "none"
        del handed[0]
        self.assertEqual(told, kept)
        self.assertEqual(told, ("over", ("dyed", AB, (("a", "b"),)), ("taking", ((("wheel", "c"), 2), (("wheel", "d"), 1)))))

    def test_changed_it_is_another_press(self):
        handed = ["turned", ["wheel", "ab"], 3]
        self.assertEqual(press_text(handed), "(turned (wheel ab) 3)")
        handed[2] = 4
        self.assertEqual(press_text(handed), "(turned (wheel ab) 4)")
        handed[1][1] = "abc"
        self.assertEqual(reckoned(handed), (0, 3))

    def test_the_same_asked_again(self):
        for press in SOME:
            for call in CALLS:
                self.assertEqual(call(press), call(press))
            text = press_text(press)
            self.assertEqual(read_press(text), read_press(text))

    def test_what_is_told_may_be_handed_in(self):
        for press in SOME:
            self.assertEqual(press_of(press_of(press)), press)
            self.assertEqual(parts_in(read_press(press_text(press))), parts_in(press))


class Numbers(unittest.TestCase):
    def test_a_truth_is_no_whole_number(self):
        for truth in (True, False):
            for press in (("turned", A, truth), ("then", A, truth, A),
                          ("taking", ((A, truth), (A, 1))), ("taking", ((A, 1), (A, truth)))):
                for call in CALLS:
                    with self.assertRaises(NoPress):
                        call(press)

    def test_thirty_figures(self):
        for many in (10 ** 29, HUGE):
            for press in (("turned", A, many), ("then", A, many, AB), ("taking", ((A, many), (AB, many)))):
                self.assertEqual(press_of(press), press)
                self.assertEqual(read_press(press_text(press)), press)

    def test_more_than_thirty_figures(self):
        press = ("turned", A, 10 ** 45)
        self.assertEqual(press_of(press), press)

    def test_told_numbers_of_any_size(self):
        many = 7
        for _ in range(5):
            press = ("taking", ((("then", A, many * HUGE, A), 1), (AB, many * HUGE)))
            many = reckoned(press)[0]
            turned = ("turned", A, many)
            self.assertEqual(read_press(press_text(turned)), turned)

    def test_thousands_of_figures(self):
        many = int("3" * 4000) * 10 ** 4000 + 12
        press = ("turned", A, many)
        figures = "3" * 4000 + "0" * 3998 + "12"
        self.assertEqual(press_text(press), f"(turned (wheel a) {figures})")
        self.assertEqual(read_press(f"(turned (wheel a) {figures})"), press)


class Rims(unittest.TestCase):
    def test_rims_longer_than_sixty_marks(self):
        for many in (60, 61, 100, 5000):
            press = ("wheel", "a" * many)
            self.assertEqual(press_of(press), press)
            self.assertEqual(reckoned(press), (0, many))
            self.assertEqual(read_press(press_text(press)), press)

    def test_texts_longer_than_two_thousand_signs(self):
        text = "(over (wheel " + "ab." * 900 + ") (wheel " + "z" * 900 + "))"
        self.assertEqual(press_text(read_press(text)), text)
