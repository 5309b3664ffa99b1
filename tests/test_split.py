"""Promise 5 for split: a value with its bound is read as what was written, or refused; of promise 1 its refusals."""

import itertools
import unittest
from fractions import Fraction

from outward.figures import shown, split
from tests.helpers import LIMIT, bounded_fault, does_not_fit, fraction_text, spell, told

NO_FIT = [-6]

BIGGEST = str(LIMIT - 1)
LARGE = str(LIMIT)

# Texts of a value, and of a bound, each with its exact text.
SIZES = (
    ("0", "0"), ("7", "7"), ("007", "7"), ("120", "120"), ("10.0004", "25001/2500"), ("0.0013", "13/10000"),
    ("1.50", "3/2"), ("0.00", "0"), ("6/4", "3/2"), ("06/03", "2"), ("0/9", "0"), ("1/3", "1/3"), (BIGGEST, BIGGEST),
    ("1/" + BIGGEST, "1/" + BIGGEST),
)


class Case(unittest.TestCase):

    def answers(self, text, wanted):
        self.assertEqual(split(spell(text)), wanted, (text[:40], text[-40:]))

    def gives(self, text, wanted):
        self.answers(text, told(wanted))

    def faulty(self, text, place):
        self.answers(text, [-3, 0, place])


class Split(Case):

    def test_the_run(self):
        self.gives("10.0004 +- 0.0013", "25001/2500 13/10000")

    def test_what_was_shown(self):
        for v, b, wanted in (
            ("10.00042", "0.00127", "25001/2500 13/10000"), ("1234567", "96.2", "1234567 97"),
            ("1234567", "99.2", "1234570 110"), ("-2.5", "50", "-2 51"), ("-0.04", "9", "0 91/10"),
            ("1/3", "0", "3" * 60 + "/1" + "0" * 60 + " 1/1" + "0" * 60), ("1.50", "0", "3/2 0"),
        ):
            self.answers(bytes(shown(spell(v), spell(b))[1:]).decode("ascii"), told(wanted))

    def test_every_form_of_both(self):
        for (v, exact_v), (b, exact_b) in itertools.product(SIZES, repeat=2):
            self.gives(f"{v} +- {b}", f"{exact_v} {exact_b}")
            sign = "" if exact_v == "0" else "-"
            self.gives(f"-{v} +- {b}", f"{sign}{exact_v} {exact_b}")

    def test_nought_has_no_sign(self):
        for v in ("0", "-0", "-000", "-0.00", "-0/7"):
            for b in ("0", "000", "0.000", "0/3"):
                self.gives(f"{v} +- {b}", "0 0")

    def test_as_many_digits_as_may_be(self):
        self.gives("0" * 1299 + "7 +- " + "0" * 1299 + "3", "7 3")
        self.gives("-0." + "0" * 1300 + " +- 0." + "5" + "0" * 1299, "0 1/2")
        self.gives("9" * 1300 + "/" + "9" * 1300 + " +- 1/3", "1 1/3")
        self.gives("1/3 +- " + "9" * 1300 + "/" + "9" * 1300, "1/3 1")


class Faults(Case):

    def test_some_of_these_by_themselves(self):
        for text, place in (
            ("", 0), ("-", 1), ("12", 2), ("12.", 3), ("12 ", 3), ("12 +", 4), ("12 +-", 5), ("12 +- ", 6),
            ("12 +- 3.", 8), ("12 +- 3/", 8), ("12 +- 3 ", 7), ("12+-3", 2), ("12  +- 3", 3), ("12 +-3", 5),
            ("12 +- -3", 6), ("12 +- +3", 6), ("12 +-  3", 6), ("12 -+ 3", 3), ("12 ++ 3", 4), ("12 +- x", 6),
            ("12. +- 3", 3), ("- +- 3", 1), (" +- 3", 0), ("+- 3", 0), ("x +- 3", 0), ("1/0 +- 3", 2), ("3 +- 1/0", 7),
            ("1/000 +- 1/0", 2), ("1/2 +- 1/000", 9), ("3 +- 1/00x", 7), ("3 +- 1/05x", 9), ("3 +- 1.5.2", 8),
            ("3 +- 1/2.5", 8), ("3 +- 4 +- 5", 6), ("3 +- 4\n", 6), ("3\n+- 4", 1), ("3 4", 2), ("3 +- -0", 5),
        ):
            self.faulty(text, place)

    def test_each_of_the_four_bytes(self):
        for start in ("0", "-12", "1.50", "-6/4"):
            for step, right in enumerate(" +- "):
                ahead = start + " +- "[:step]
                self.faulty(ahead, len(ahead))
                for byte in range(256):
                    # Of the first one also what may go on with the number.
                    if chr(byte) != right and (step > 0 or chr(byte) not in "0123456789./"):
                        self.faulty(ahead + chr(byte), len(ahead))
                        self.faulty(ahead + chr(byte) + " +- "[step + 1:] + "5", len(ahead))

    def test_a_byte_that_cannot_begin_or_go_on_with_the_bound(self):
        digits = "0123456789"
        for start, free in (
            ("7 +- ", digits), ("7 +- 1", digits + "./"), ("7 +- 1.", digits), ("7 +- 1.5", digits),
            ("7 +- 1/", digits), ("7 +- 1/2", digits),
        ):
            for byte in range(256):
                if chr(byte) not in free:
                    self.faulty(start + chr(byte), len(start))
                    self.faulty(start + chr(byte) + "1", len(start))

    def test_too_many_digits(self):
        for start in ("", "-", "5 +- "):
            for ahead in ("", "3.", "3/"):
                for digit in "019":
                    for count in (1301, 1302):
                        text = start + ahead + digit * count
                        self.faulty(text, len(start + ahead) + 1300)
                        self.faulty(text + " +- 1", len(start + ahead) + 1300)

    def test_a_denominator_of_noughts(self):
        for start in ("", "-", "5 +- "):
            for count in (1, 2, 1299, 1300):
                self.faulty(f"{start}1/{'0' * count}", len(start) + 2)
            self.faulty(f"{start}1/{'0' * 1301}", len(start) + 1302)
        for count in (1, 2, 1299, 1300):
            self.faulty(f"-1/{'0' * count} +- 1/0", 3)
            self.faulty(f"-1/{'0' * count} +- ", 3)

    def test_texts_that_are_changed_at_one_place(self):
        for right in ("0 +- 0", "-12 +- 3", "1.50 +- 0.2", "-6/4 +- 1/3", "10 +- 2.5", "7/8 +- 05"):
            self.assertIsNone(bounded_fault(right.encode()))
            for place in range(len(right) + 1):
                ahead, behind = right[:place], right[place:]
                for sign in ("", "0", "5", "-", "+", " ", ".", "/", "x", "\0", "\xff"):
                    for text in (ahead + sign + behind, ahead + sign + behind[1:], ahead + sign):
                        self.as_told(text)

    def test_every_short_text(self):
        for length in range(5):
            for signs in itertools.product("-+ 05./", repeat=length):
                self.as_told("".join(signs))
                self.as_told("1 +" + "".join(signs))
                self.as_told("1 +- " + "".join(signs))

    def as_told(self, text):
        place = bounded_fault(text.encode("latin-1"))
        if place is not None:
            self.faulty(text, place)
        else:
            value, bound = text.split(" +- ")
            self.gives(text, fraction_text(Fraction(value)) + " " + fraction_text(Fraction(bound)))


class HowManyBytes(Case):

    def test_4096_and_4097(self):
        text = f"{'0' * 1299}7.{'0' * 1300} +- {'0' * 1299}3.{'0' * 190}"
        self.assertEqual(len(text), 4096)
        self.gives(text, "7 3")
        self.answers(text + "0", [-1])
        text = f"-{'0' * 1298}7.{'0' * 1300} +- {'0' * 1299}3/{'0' * 189}2"
        self.assertEqual(len(text), 4096)
        self.gives(text, "-7 3/2")
        self.answers("-0" + text[1:], [-1])

    def test_too_long_comes_ahead_of_faulty(self):
        for text in ("x", "1", "0", "-", " "):
            self.faulty(text * 4096, {"x": 0, "1": 1300, "0": 1300, "-": 1, " ": 0}[text])
            for count in (4097, 4098, 5000):
                self.answers(text * count, [-1])
        self.answers(("1 +- 2" + "0" * 5000)[:4097], [-1])
        self.answers((LARGE + " +- " + LARGE + " " * 5000)[:5000], [-1])


class NextToTheLimit(Case):

    def test_the_value_alone(self):
        for sign in ("", "-"):
            for b in ("0", "1/3", BIGGEST, "1/" + BIGGEST):
                for v in (LARGE, LARGE + ".0", f"{LIMIT + 1}/2", "1/" + LARGE, f"3/{3 * LIMIT}", "9" * 1300):
                    self.answers(f"{sign}{v} +- {b}", NO_FIT)
        self.answers("0." + "0" * 1299 + "1 +- 1", NO_FIT)

    def test_the_bound_alone(self):
        for v in ("0", "-1/3", BIGGEST, "-" + BIGGEST, "-1/" + BIGGEST):
            for b in (LARGE, LARGE + ".0", f"{LIMIT + 1}/2", "1/" + LARGE, f"3/{3 * LIMIT}", "9" * 1300):
                self.answers(f"{v} +- {b}", NO_FIT)
        self.answers("1 +- 0." + "0" * 1299 + "1", NO_FIT)

    def test_both(self):
        self.answers(f"{LARGE} +- {LARGE}", NO_FIT)
        self.answers(f"-{LARGE} +- 1/{LARGE}", NO_FIT)
        self.answers(f"1/{LARGE} +- {LIMIT + 1}/2", NO_FIT)

    def test_what_fits(self):
        for sign in ("", "-"):
            self.gives(f"{sign}{BIGGEST} +- {BIGGEST}", f"{sign}{BIGGEST} {BIGGEST}")
            self.gives(f"{sign}1/{BIGGEST} +- 1/{BIGGEST}", f"{sign}1/{BIGGEST} 1/{BIGGEST}")

    def test_what_fits_in_least_terms_alone(self):
        half = str(LIMIT // 2)
        for sign in ("", "-"):
            self.gives(f"{sign}{LARGE}/2 +- {LARGE}/2", f"{sign}{half} {half}")
            self.gives(f"{sign}2/{LARGE} +- 2/{LARGE}", f"{sign}1/{half} 1/{half}")
            self.gives(f"{sign}{LARGE}/{LARGE} +- 7", f"{sign}1 7")
            self.gives(f"{sign}7 +- {3 * LIMIT - 3}/3", f"{sign}7 {BIGGEST}")
            self.gives(f"{sign}{BIGGEST}.00 +- 0.50", f"{sign}{BIGGEST} 1/2")
            self.answers(f"{sign}7 +- {3 * LIMIT}/3", NO_FIT)
            self.answers(f"{sign}{3 * LIMIT}/3 +- 7", NO_FIT)

    def test_a_fault_comes_ahead_of_what_does_not_fit(self):
        for v in (LARGE, "-" + LARGE, "1/" + LARGE):
            for rest, step in (("", 0), (" ", 1), (" +- ", 4), (" +- -1", 4), (" +- 1/0", 6), (" +- 1 ", 5)):
                self.faulty(v + rest, len(v) + step)
        self.faulty(f"1 +- {LARGE} ", 5 + len(LARGE))
        self.faulty(f"1/0 +- {LARGE}", 2)

    def test_in_between(self):
        for top, bottom in itertools.product((1, LIMIT - 1, LIMIT, LIMIT + 2), repeat=2):
            number = Fraction(top, bottom)
            wanted = NO_FIT if does_not_fit(number) else told(f"{fraction_text(number)} 0")
            self.answers(f"{top}/{bottom} +- 0", wanted)
            wanted = NO_FIT if does_not_fit(number) else told(f"-5 {fraction_text(number)}")
            self.answers(f"-5 +- {top}/{bottom}", wanted)


if __name__ == "__main__":
    unittest.main()
