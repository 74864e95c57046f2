"""Point 3: each refusal's own class, and who refuses with which."""

import unittest

from rimprints import errors
from rimprints.errors import NoPress, NoText, PrintError, TooLong
from rimprints.presses import parts_in, press_of, reckoned
from rimprints.texts import press_text, read_press
from tests.samples import A, chain

NAMES = ("NoPress", "TooLong", "NoText", "NoPlace", "NoLetter", "NoNumber", "NoSeen", "NoForm", "NoName", "NoneYet")


class Classes(unittest.TestCase):
    def test_each_class_stands_straight_under_print_error(self):
        for name in NAMES:
            self.assertEqual(getattr(errors, name).__bases__, (PrintError,), name)

    def test_print_error_is_a_value_error(self):
        self.assertEqual(PrintError.__bases__, (ValueError,))

    def test_none_stands_under_another(self):
        classes = [getattr(errors, name) for name in NAMES]
        for one in classes:
            self.assertEqual([other for other in classes if issubclass(one, other)], [one])

    def test_each_can_be_raised_with_words(self):
        for name in NAMES:
            with self.assertRaises(PrintError) as caught:
                raise getattr(errors, name)("why")
            self.assertEqual(str(caught.exception), "why")

    def test_they_are_defined_in_their_file(self):
        for name in NAMES + ("PrintError",):
            self.assertEqual(getattr(errors, name).__module__, "rimprints.errors")


class Refusals(unittest.TestCase):
    def refused(self, error, call, *given):
        with self.assertRaises(PrintError) as caught:
            call(*given)
        self.assertIs(type(caught.exception), error)

    def test_no_press(self):
        for call in (press_of, parts_in, reckoned, press_text):
            self.refused(NoPress, call, ("wheel", ""))
            self.refused(NoPress, call, chain(13))
        self.refused(NoPress, read_press, "(taking (wheel a) 0 (wheel b) 1)")

    def test_too_long(self):
        long = ("cut", A, ("then", A, 100000, A))
        for call in (press_of, parts_in, reckoned, press_text):
            self.refused(TooLong, call, long)
        self.refused(TooLong, read_press, "(cut (wheel a) (then (wheel a) 100000 (wheel a)))")

    def test_no_text(self):
        self.refused(NoText, read_press, "")
        self.refused(NoText, read_press, None)

    def test_a_refusal_changes_nothing(self):
        handed = ["over", ["wheel", "a"], ["turned", ["wheel", "b"], -1]]
        self.refused(NoPress, press_of, handed)
        self.assertEqual(handed, ["over", ["wheel", "a"], ["turned", ["wheel", "b"], -1]])
        self.assertEqual(press_of(["wheel", "a"]), ("wheel", "a"))
