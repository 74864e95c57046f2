"""Point 8: presses as texts, and read from texts."""

import unittest

from rimprints.errors import NoPress, NoText, PrintError, TooLong
from rimprints.presses import press_of
from rimprints.texts import press_text, read_press
from tests.samples import A, AB, EACH, HUGE, chain, presses

TEXTS = (
    "(wheel ab.z)",
    "(turned (wheel a) 0)",
    "(over (wheel a) (wheel .))",
    "(cut (wheel ab) (wheel .))",
    "(held (wheel ab) (wheel x.))",
    "(taking (wheel a) 1 (wheel ab) 2)",
    "(then (wheel a) 0 (wheel ab))",
    "(dyed (wheel ab) ab b.)",
)


class Written(unittest.TestCase):
    def test_each_word(self):
        for press, text in zip(EACH, TEXTS):
            self.assertEqual(press_text(press), text)
            self.assertEqual(read_press(text), press)

    def test_dyed_by_no_pairs(self):
        self.assertEqual(press_text(("dyed", AB, ())), "(dyed (wheel ab))")
        self.assertEqual(read_press("(dyed (wheel ab))"), ("dyed", AB, ()))

    def test_presses_within(self):
        press = ("over", ("turned", ("dyed", AB, (("a", "."),)), 10), ("taking", ((A, 1), (("then", A, 0, AB), HUGE))))
        text = f"(over (turned (dyed (wheel ab) a.) 10) (taking (wheel a) 1 (then (wheel a) 0 (wheel ab)) {HUGE}))"
        self.assertEqual(press_text(press), text)
        self.assertEqual(read_press(text), press)

    def test_lists_handed_in(self):
        self.assertEqual(press_text(["turned", ["wheel", "a"], 7]), "(turned (wheel a) 7)")

    def test_two_to_six_pairs(self):
        for many in range(2, 7):
            press = ("taking", ((A, 1),) * many)
            text = "(taking" + " (wheel a) 1" * many + ")"
            self.assertEqual(press_text(press), text)
            self.assertEqual(read_press(text), press)

    def test_numbers(self):
        for many in (0, 1, 9, 10, 100, 10 ** 29, HUGE, 10 ** 63, 10 ** 64 - 1, 10 ** 64, 10 ** 64 + 1, 10 ** 128 + 5, 10 ** 200):
            press = ("turned", A, many)
            self.assertEqual(press_text(press), f"(turned (wheel a) {many})")
            self.assertEqual(read_press(f"(turned (wheel a) {many})"), press)

    def test_read_back_it_is_the_press(self):
        for press in presses(3, 300, HUGE // 10 ** 27) + presses(4, 100, 1000, 9):
            self.assertEqual(read_press(press_text(press)), press)

    def test_refused_as_presses(self):
        self.assertRaises(NoPress, press_text, ("wheel", ""))
        self.assertRaises(NoPress, press_text, "(wheel a)")
        self.assertRaises(NoPress, press_text, None)
        self.assertRaises(NoPress, press_text, chain(13))
        self.assertEqual(press_text(chain(12)).count("turned"), 11)
        self.assertRaises(TooLong, press_text, ("cut", A, ("then", A, 100000, A)))
        self.assertRaises(NoPress, press_text, ("cut", ("wheel", ""), ("then", A, 100000, A)))


class NoTexts(unittest.TestCase):
    def no_text(self, *texts):
        for text in texts:
            with self.subTest(text=text):
                self.assertRaises(NoText, read_press, text)

    def test_what_is_no_text(self):
        self.no_text(None, 0, 1, True, (), [], A, list("(wheel a)"), ["(wheel a)"], b"(wheel a)", {}, 1.5)

    def test_nothing_in_it(self):
        self.no_text("", " ", "  ", "()", "( )", "(", ")", "(()", "())", ")(", "a", "wheel", "wheel a", "5")

    def test_blanks(self):
        self.no_text(" (wheel a)", "(wheel a) ", "( wheel a)", "(wheel  a)", "(wheel a )", "(wheela)", "(wheel)", "(wheel )")
        self.no_text("(wheel\ta)", "(wheel\na)", "(wheel a)\n", "(wheel a\n)", "(wheel\u00a0a)", "(wheel a b)", "(wheel a.b .)")
        self.no_text("(over (wheel a)(wheel b))", "(over (wheel a)  (wheel b))", "(over  (wheel a) (wheel b))")
        self.no_text("(over(wheel a) (wheel b))", "(over (wheel a) (wheel b) )", "(over (wheel a) ( wheel b))")
        self.no_text("(turned (wheel a)3)", "(turned (wheel a) 3 )", "(turned (wheel a)  3)", "(turned (wheel a) 3 0)")
        self.no_text("(dyed (wheel a) )", "(dyed (wheel a)  ab)", "(dyed (wheel a) a b)", "(dyed (wheel a) ab  cd)")
        self.no_text("(dyed (wheel a)ab)", "(dyed (wheel a) abcd)", "(dyed (wheel a) ab )")

    def test_brackets(self):
        self.no_text("(wheel a", "wheel a)", "((wheel a))", "(wheel a))", "((wheel a)", "(wheel (a))", "((wheel) a)")
        self.no_text("(over (wheel a) (wheel b)", "(over (wheel a) (wheel b)))", "(over (wheel a) wheel b)", "[wheel a]")
        self.no_text("(over (wheel a (wheel b)))", "(over ((wheel a) (wheel b)))", "(over wheel a wheel b)", "(wheel a)b")
        self.no_text("(turned (wheel a) (3))", "(turned wheel a 3)", "(turned a 3)", "(turned (wheel a 3))", "(wheel a)(wheel b)")
        self.no_text("(wheel a) (wheel b)", "(wheel a) b", "a (wheel b)", "(wheel a) )", "(wheel a)) (wheel b)", "{wheel a}")
        self.no_text("(taking ((wheel a) 1) ((wheel b) 1))", "(dyed (wheel a) (ab))", "(dyed (wheel a) (a b))", "(wheel a(b)")

    def test_rims(self):
        for rim in ("A", "aB", "1", "?", "a?", "a,b", "-", "*", "a-b", "\u00e4", "a(", "(a", "\"a\"", "'"):
            self.no_text(f"(wheel {rim})")

    def test_words(self):
        self.no_text("(rim a)", "(Wheel a)", "(WHEEL a)", "(wheels a)", "(whee a)", "( a)", "(. a)", "(a b)", "(abc)")
        self.no_text("(Over (wheel a) (wheel b))", "(under (wheel a) (wheel b))", "(Turned (wheel a) 1)", "(DYED (wheel a))")

    def test_numbers(self):
        for number in ("00", "01", "007", "-1", "+1", "-0", "1.0", "1e3", "a", "1a", "0x1", "1_0", "1,0", "\u0661", "\u00b2", "(1)", "", "."):
            self.no_text(f"(turned (wheel a) {number})", f"(then (wheel a) {number} (wheel b))")
            self.no_text(f"(taking (wheel a) {number} (wheel b) 1)", f"(taking (wheel a) 1 (wheel b) {number})")

    def test_too_few_or_too_many_words(self):
        self.no_text("(wheel)", "(turned)", "(over)", "(cut)", "(held)", "(taking)", "(then)", "(dyed)", "(dyed ab)", "(dyed ab cd)")
        self.no_text("(turned (wheel a))", "(turned 1)", "(turned (wheel a) 1 1)", "(turned (wheel a) 1 (wheel a))")
        self.no_text("(turned 1 (wheel a))", "(turned (wheel a) (wheel a))", "(turned 1 1)")
        for word in ("over", "cut", "held"):
            self.no_text(f"({word} (wheel a))", f"({word} (wheel a) (wheel a) (wheel a))", f"({word} (wheel a) 1)")
            self.no_text(f"({word} (wheel a) a)", f"({word} a (wheel a))", f"({word} a b)")
        self.no_text("(then (wheel a) 1)", "(then (wheel a) (wheel b))", "(then (wheel a) (wheel b) 1)", "(then 1 (wheel a) (wheel b))")
        self.no_text("(then (wheel a) 1 (wheel b) 1)", "(then (wheel a) 1 b)", "(then a 1 (wheel b))", "(then (wheel a) 1 1)")

    def test_pairs_of_taking(self):
        self.no_text("(taking (wheel a) 1)", "(taking" + " (wheel a) 1" * 7 + ")", "(taking" + " (wheel a) 1" * 12 + ")")
        self.no_text("(taking (wheel a) 1 (wheel b))", "(taking (wheel a) 1 (wheel b) 1 (wheel c))", "(taking 1 (wheel a) 1 (wheel b))")
        self.no_text("(taking (wheel a) (wheel b) 1 1)", "(taking (wheel a) 1 1 (wheel b))", "(taking 1 1 1 1)", "(taking a 1 b 1)")

    def test_pairs_of_dyed(self):
        for pair in ("a", "abc", ".a", "..", "A.", "aB", "a1", "1a", "a?", "a-", "a,b", "(ab)", "(wheel a)"):
            self.no_text(f"(dyed (wheel a) {pair})", f"(dyed (wheel a) zy {pair})", f"(dyed (wheel a) {pair} zy)")

    def test_a_form_within_that_is_none(self):
        self.no_text("(over (wheel a) (wheel B))", "(over (wheel B) (wheel a))", "(turned (turned (wheel a) 01) 1)")

    def test_deep_texts(self):
        for word in ("(over ", "(cut ", "(turned ", "(taking ", "(", "(wheel "):
            self.no_text(word * 400, word * 5000)
        deep = "(turned " * 5000 + "(wheel a)" + " 1)" * 5000
        self.assertRaises(NoPress, read_press, deep)
        self.no_text(deep + ")", deep[:-1], deep.replace("wheel", "whee"))


class Order(unittest.TestCase):
    def test_no_press(self):
        for text in ("(taking (wheel a) 0 (wheel b) 1)", "(taking (wheel a) 1 (wheel b) 0)", "(dyed (wheel a) ab ac)",
                     "(dyed (wheel a) ab ab)", "(turned " * 12 + "(wheel a)" + " 1)" * 12):
            self.assertRaises(NoPress, read_press, text)
        self.assertEqual(read_press("(turned " * 11 + "(wheel a)" + " 1)" * 11), chain(12))

    def test_too_long(self):
        for word in ("cut", "held"):
            self.assertRaises(TooLong, read_press, f"({word} (wheel a) (then (wheel a) 100000 (wheel a)))")
            self.assertEqual(read_press(f"({word} (wheel a) (then (wheel a) 99999 (wheel a)))")[0], word)

    def test_no_text_ahead_of_no_press(self):
        for text in ("(over (taking (wheel a) 0 (wheel b) 1) (wheel A))", "(over (wheel A) (dyed (wheel a) ab ab))",
                     "(dyed (wheel a) ab ab) ", "(turned " * 13 + "(wheel a)" + " 1)" * 12 + " 01)",
                     "(turned " * 13 + "(wheel )" + " 1)" * 13):
            self.assertRaises(NoText, read_press, text)

    def test_no_text_ahead_of_too_long(self):
        for text in ("(over (cut (wheel a) (then (wheel a) 100000 (wheel a))) (wheel A))",
                     "(cut (wheel a) (then (wheel a) 0100000 (wheel a)))",
                     "(cut (wheel a) (then (wheel a) 100000 (wheel a))) "):
            self.assertRaises(NoText, read_press, text)

    def test_no_press_ahead_of_too_long(self):
        for text in ("(over (cut (wheel a) (then (wheel a) 100000 (wheel a))) (dyed (wheel a) ab ab))",
                     "(cut (wheel a) (then (wheel a) 100000 (taking (wheel a) 0 (wheel b) 1)))",
                     "(turned " * 8 + "(cut (wheel a) (then (wheel a) 100000 (wheel a)))" + " 1)" * 8):
            self.assertRaises(NoPress, read_press, text)


class Spoilt(unittest.TestCase):
    def test_each_sign_left_out_doubled_or_changed(self):
        """What is read is either refused, or written again as the very text."""
        texts = TEXTS + tuple(press_text(press) for press in presses(11, 12))
        for text in texts:
            for at in range(len(text)):
                tries = [text[:at] + text[at + 1:], text[:at] + text[at] + text[at:]]
                tries += [text[:at] + sign + text[at + 1:] for sign in " ().a0A"]
                for tried in tries:
                    self.read_or_refused(tried)

    def read_or_refused(self, text):
        try:
            press = read_press(text)
        except PrintError:
            return
        self.assertEqual(press_text(press), text)
        self.assertEqual(press_of(press), press)
