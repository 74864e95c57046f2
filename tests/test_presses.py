"""Points 5 and 6: what is a press, and how many parts it has."""

import unittest
from collections import deque

from rimprints.errors import NoPress, TooLong
from rimprints.presses import parts_in, press_of, reckoned
from rimprints.texts import press_text
from tests.samples import A, AB, EACH, GAP, HUGE, chain

CALLS = (press_of, parts_in, reckoned, press_text)


class Case(unittest.TestCase):
    def is_press(self, *presses):
        for press in presses:
            self.assertEqual(press_of(press), press)

    def no_press(self, *things):
        self.refused(NoPress, things)

    def too_long(self, *things):
        self.refused(TooLong, things)

    def refused(self, error, things):
        for thing in things:
            for call in CALLS:
                with self.subTest(thing=thing, call=call):
                    self.assertRaises(error, call, thing)


class Words(Case):
    def test_what_is_no_press_at_all(self):
        self.no_press(None, 0, 7, True, "", "wheel", "(wheel a)", (), [], {}, b"wheel", (None,), ((),), [[]], (A,))
        self.no_press(deque(("wheel", "a")), ("taking", deque(((A, 1), (A, 1)))), ("dyed", A, (deque(("a", "b")),)))
        self.no_press({"wheel": "a"}, ("wheel",), ("Wheel", "a"), ("rim", "a"), ("wheel ", "a"), ("", "a"))
        self.no_press((b"wheel", "a"), (["wheel"], "a"), (("wheel",), "a"), (None, "a"), (1, "a"), ("a", "wheel"))

    def test_wheel(self):
        self.is_press(("wheel", "a"), ("wheel", "z"), ("wheel", "."), ("wheel", "..."), ("wheel", "ab.z"))
        self.is_press(("wheel", "abcdefghijklmnopqrstuvwxyz."))
        self.no_press(("wheel", ""), ("wheel", "a", "b"), ("wheel", "a", 1), ("wheel", A))
        for sign in ("A", "Z", "`", "{", "?", "-", "/", "0", " ", "\n", "\t", "*", "\u00e4", "\u0430", "\u00aa"):
            self.no_press(("wheel", sign), ("wheel", "a" + sign), ("wheel", sign + "a"), ("wheel", "a" + sign + "b"))
        self.no_press(("wheel", None), ("wheel", 1), ("wheel", True), ("wheel", b"ab"))
        self.no_press(("wheel", ["a", "b"]), ("wheel", ("a",)), ("wheel", ()), ("wheel", {"a": 1}))

    def test_turned(self):
        self.is_press(("turned", A, 0), ("turned", A, 1), ("turned", A, HUGE), ("turned", ("turned", A, 2), 3))
        self.no_press(("turned", A, -1), ("turned", A, -HUGE), ("turned", A, "1"), ("turned", A, None))
        self.no_press(("turned", A, True), ("turned", A, False), ("turned", A, 1.0), ("turned", A, (1,)))
        self.no_press(("turned",), ("turned", A), ("turned", A, 1, 1), ("turned", 1, A), ("turned", "a", 1))
        self.no_press(("turned", ("wheel", ""), 1), ("turned", None, 1), ("turned", (), 1))

    def test_over_cut_and_held(self):
        for word in ("over", "cut", "held"):
            self.is_press((word, A, AB), (word, GAP, GAP), (word, (word, A, AB), (word, AB, A)))
            self.no_press((word,), (word, A), (word, A, A, A), (word, A, 1), (word, 1, A), (word, "a", A))
            self.no_press((word, A, ("wheel", "")), (word, ("wheel", ""), A), (word, (A, A)), (word, A, None))

    def test_taking_two_to_six_pairs(self):
        for many in range(9):
            press = ("taking", ((A, 1),) * many)
            if 2 <= many <= 6:
                self.is_press(press)
            else:
                self.no_press(press)

    def test_taking(self):
        self.is_press(("taking", ((A, 1), (AB, HUGE))), ("taking", ((("taking", ((A, 1), (A, 1))), 2), (GAP, 3))))
        for wrong in (0, -1, -HUGE, True, False, "1", None, 1.0, (1,), A):
            self.no_press(("taking", ((A, 1), (A, wrong))), ("taking", ((A, wrong), (A, 1))))
        for wrong in ((A,), (A, 1, 1), (), (1, A), A, "ab", None, 1, (("wheel", ""), 1), ("a", 1), {"a": 1, "b": 2}):
            self.no_press(("taking", ((A, 1), wrong)), ("taking", (wrong, (A, 1))))
        self.no_press(("taking",), ("taking", (A, 1), (A, 1)), ("taking", ((A, 1), (A, 1)), 1))
        self.no_press(("taking", None), ("taking", 2), ("taking", "ab"), ("taking", {0: (A, 1), 1: (A, 1)}))
        self.no_press(("taking", A, 1, A, 1))

    def test_then(self):
        self.is_press(("then", A, 0, AB), ("then", A, 1, AB), ("then", A, HUGE, ("then", A, 5, AB)))
        for wrong in (-1, -HUGE, True, False, "1", None, 1.0, A):
            self.no_press(("then", A, wrong, A))
        self.no_press(("then",), ("then", A), ("then", A, 1), ("then", A, 1, A, 1), ("then", A, A, 1))
        self.no_press(("then", 1, 1, A), ("then", A, 1, 1), ("then", ("wheel", ""), 1, A), ("then", A, 1, ("wheel", "")))

    def test_dyed(self):
        self.is_press(("dyed", A, ()), ("dyed", A, (("a", "b"),)), ("dyed", A, (("a", "."),)), ("dyed", A, (("a", "a"),)))
        self.is_press(("dyed", A, (("a", "b"), ("b", "a"), ("z", "a"))))
        self.is_press(("dyed", A, tuple((mark, ".") for mark in "abcdefghijklmnopqrstuvwxyz")))
        for wrong in ((".", "a"), ("", "a"), ("ab", "a"), ("A", "a"), ("1", "a"), (1, "a"), (None, "a"), (["a"], "a"),
                      ("a", ""), ("a", "bc"), ("a", "B"), ("a", ".."), ("a", "?"), ("a", 1), ("a", None), ("a", ["b"]),
                      ("a",), (), ("a", "b", "c"), "ab", None, 1, {"a": "b", "c": "d"}, b"ab"):
            self.no_press(("dyed", A, (wrong,)), ("dyed", A, (("z", "y"), wrong)), ("dyed", A, (wrong, ("z", "y"))))
        self.no_press(("dyed",), ("dyed", A), ("dyed", A, ("a", "b")), ("dyed", A, (), ()), ("dyed", A, None))
        self.no_press(("dyed", A, "ab"), ("dyed", A, 0), ("dyed", A, {}), ("dyed", A, ("ab",)), ("dyed", (), ()))
        self.no_press(("dyed", ("wheel", ""), ()), ("dyed", "a", (("a", "b"),)))

    def test_a_dyes_first_mark_twice(self):
        self.no_press(("dyed", A, (("a", "b"), ("a", "c"))), ("dyed", A, (("a", "b"), ("a", "b"))))
        self.no_press(("dyed", A, (("a", "b"), ("c", "d"), ("a", "."))))
        self.is_press(("dyed", A, (("a", "c"), ("b", "c"))))


class Parts(Case):
    def test_how_many(self):
        self.assertEqual([parts_in(press) for press in EACH], [1, 2, 3, 3, 3, 3, 3, 2])

    def test_parts_of_parts(self):
        self.assertEqual(parts_in(("over", ("turned", A, 1), ("then", A, 3, ("dyed", A, ())))), 7)
        self.assertEqual(parts_in(("taking", ((A, 1),) * 6)), 7)
        self.assertEqual(parts_in(("cut", ("held", A, A), ("held", A, A))), 7)

    def test_the_same_press_twice_counts_twice(self):
        same = ("turned", A, 1)
        self.assertEqual(parts_in(("over", same, same)), 5)

    def test_twelve_and_thirteen(self):
        five = ("taking", ((A, 1),) * 4)
        for outer in (lambda inner: inner, lambda inner: ("turned", inner[1], 1)):
            self.assertEqual(parts_in(outer(chain(12))), 12)
            self.no_press(outer(chain(13)))
        for word in ("over", "cut", "held"):
            self.assertEqual(parts_in((word, chain(5), chain(6))), 12)
            self.assertEqual(parts_in((word, chain(10), A)), 12)
            self.no_press((word, chain(6), chain(6)), (word, chain(5), chain(7)), (word, A, chain(11)))
        self.assertEqual(parts_in(("then", five, 3, chain(6))), 12)
        self.no_press(("then", five, 3, chain(7)))
        self.assertEqual(parts_in(("taking", ((chain(6), 1),) + ((A, 1),) * 5)), 12)
        self.no_press(("taking", ((chain(7), 1),) + ((A, 1),) * 5), ("taking", ((A, 1),) * 5 + ((chain(7), 1),)))
        self.assertEqual(parts_in(("dyed", chain(11), ())), 12)
        self.no_press(("dyed", chain(12), ()), chain(14), chain(50))

    def test_far_too_many_parts(self):
        deep = chain(20000)
        wide = A
        for _ in range(40):
            wide = ("taking", ((wide, 1),) * 6)
        endless = ["turned", None, 1]
        endless[1] = endless
        for thing in (deep, wide, endless):
            for call in CALLS:
                self.assertRaises(NoPress, call, thing)


class LongCams(Case):
    def test_from_and_length_added(self):
        for many in (0, 1, 50000, 99998, 99999):
            for word in ("cut", "held"):
                self.is_press((word, AB, ("then", A, many, A)))
                self.too_long((word, AB, ("then", A, 100000, A)))

    def test_length_alone(self):
        for word in ("cut", "held"):
            self.is_press((word, A, ("wheel", "a" * 100000)))
            self.too_long((word, A, ("wheel", "a" * 100001)))
            self.is_press((word, A, ("taking", ((A, 99999), (A, 1)))))
            self.too_long((word, A, ("taking", ((A, 100000), (A, 1)))))

    def test_from_and_length(self):
        for word in ("cut", "held"):
            self.is_press((word, A, ("then", A, 99990, ("wheel", "a" * 10))))
            self.too_long((word, A, ("then", A, 99991, ("wheel", "a" * 10))), (word, A, ("then", A, HUGE, A)))

    def test_it_is_as_reckoned_not_the_least(self):
        self.too_long(("cut", A, ("taking", ((A, HUGE), (A, HUGE)))))
        self.too_long(("cut", A, ("then", A, 100000, A)))
        self.is_press(("cut", A, ("turned", ("then", A, HUGE, A), HUGE)))
        self.is_press(("cut", A, ("turned", ("then", A, 100001, A), 2)))
        self.too_long(("cut", A, ("turned", ("then", A, 100001, A), 1)))

    def test_only_cams(self):
        long = ("then", A, HUGE, AB)
        self.is_press(long, ("cut", long, A), ("held", long, A), ("over", long, long), ("turned", long, 1))

    def test_wherever_the_cam_is(self):
        long = ("cut", A, ("then", A, 100000, A))
        self.too_long(("turned", long, 3), ("over", long, A), ("over", A, long), ("cut", long, A), ("held", long, A))
        self.too_long(("then", long, 1, A), ("then", A, 1, long), ("then", long, 0, A), ("dyed", long, ()))
        self.too_long(("taking", ((long, 1), (A, 1))), ("taking", ((A, 1), (long, 1))))

    def test_a_cam_of_a_cam(self):
        self.too_long(("cut", A, ("cut", A, ("then", A, 100000, A))))
        self.too_long(("held", A, ("turned", ("held", A, ("then", A, 100000, A)), HUGE)))
        self.too_long(("held", A, ("held", A, ("turned", ("cut", ("then", A, 100000, A), A), 0))))
        self.is_press(("held", A, ("turned", ("cut", ("then", A, 100000, A), A), HUGE)))

    def test_a_held_cam_is_reckoned_too(self):
        for word in ("cut", "held"):
            self.is_press((word, A, ("held", ("wheel", "a" * 1000), ("wheel", "a" + "." * 99))))
            self.too_long((word, A, ("held", ("wheel", "a" * 1001), ("wheel", "a" + "." * 99))))
            self.is_press((word, A, ("held", ("then", A, HUGE, A), ("then", A, 99998, GAP))))
            self.too_long((word, A, ("held", ("then", A, 50000, A), ("wheel", "a."))))
            self.is_press((word, A, ("held", ("then", A, 49999, A), ("wheel", "a."))))

    def test_no_press_goes_first(self):
        long = ("cut", A, ("then", A, 100000, A))
        bad = ("wheel", "")
        self.no_press(("over", long, bad), ("over", bad, long), ("turned", long, -1), ("then", long, 1, bad))
        self.no_press(("cut", bad, ("then", A, 100000, A)), ("cut", A, ("then", bad, 100000, A)))
        self.no_press(("cut", A, ("then", A, 100000, bad)), ("taking", ((long, 1), (A, 0))), ("taking", ((long, 1),)))
        self.no_press(("dyed", long, (("a", "b"), ("a", "b"))), ("held", long, ("cut", long, bad)))
        self.no_press(("over", long, chain(10)), ("over", chain(10), long))
        self.too_long(("over", long, chain(6)), ("over", chain(6), long))
