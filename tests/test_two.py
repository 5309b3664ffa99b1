"""Promise 5 for two: what's made of numbers is exact; and of promise 1 -1 for op, -5 and -6 for what's made."""

import itertools
import unittest
from fractions import Fraction

from outward.figures import two
from tests.helpers import LIMIT, OPS, made, spell, told

SUM, DIFFERENCE, PRODUCT, QUOTIENT = OPS

NO_QUOTIENT = [-5]
NO_FIT = [-6]

NOUGHTS = ("0", "-0", "0.00", "-0.0", "0/7", "-0/7", "000", "-000/003", "0." + "0" * 1300, "0/" + "9" * 1300)

BIGGEST = str(LIMIT - 1)
NEXT = str(LIMIT - 2)
HALF = str(LIMIT // 2)
THIRD = str((LIMIT - 1) // 3)


class Case(unittest.TestCase):

    def answers(self, op, a, b, wanted):
        self.assertEqual(two(op, spell(a), spell(b)), wanted, (op, a[:40], b[:40]))

    def gives(self, op, a, b, wanted):
        self.answers(op, a, b, told(wanted))

    def ops(self, a, b, *wanted):
        for op in OPS:
            self.gives(op, a, b, wanted[op])


class Two(Case):

    def test_the_run(self):
        self.gives(SUM, "25001/2500", "1/2500", "12501/1250")

    def test_whole_numbers(self):
        self.ops("6", "3", "9", "3", "18", "2")
        self.ops("3", "6", "9", "-3", "18", "1/2")
        self.ops("6", "-3", "3", "9", "-18", "-2")
        self.ops("-6", "3", "-3", "-9", "-18", "-2")
        self.ops("-6", "-3", "-9", "-3", "18", "2")
        self.ops("007", "-0002", "5", "9", "-14", "-7/2")
        self.ops("1" + "0" * 400, "1", "1" + "0" * 399 + "1", "9" * 400, "1" + "0" * 400, "1" + "0" * 400)

    def test_fractions(self):
        self.ops("1/2", "1/3", "5/6", "1/6", "1/6", "3/2")
        self.ops("1/3", "1/2", "5/6", "-1/6", "1/6", "2/3")
        self.ops("-1/2", "1/3", "-1/6", "-5/6", "-1/6", "-3/2")
        self.ops("1/2", "-1/3", "1/6", "5/6", "-1/6", "-3/2")
        self.ops("-1/2", "-1/3", "-5/6", "-1/6", "1/6", "3/2")
        self.ops("6/4", "10/4", "4", "-1", "15/4", "3/5")

    def test_points(self):
        self.ops("1.50", "0.5", "2", "1", "3/4", "3")
        self.ops("-1.50", "0.5", "-1", "-2", "-3/4", "-3")
        self.ops("0.1", "0.2", "3/10", "-1/10", "1/50", "1/2")
        self.ops("1.25", "3/4", "2", "1/2", "15/16", "5/3")
        self.ops("2", "0.05", "41/20", "39/20", "1/10", "40")

    def test_what_comes_to_least_terms(self):
        self.gives(SUM, "1/6", "1/3", "1/2")
        self.gives(SUM, "1/4", "3/4", "1")
        self.gives(SUM, "-7/3", "1/3", "-2")
        self.gives(DIFFERENCE, "5/6", "1/3", "1/2")
        self.gives(DIFFERENCE, "7/2", "1/2", "3")
        self.gives(PRODUCT, "2/3", "3/4", "1/2")
        self.gives(PRODUCT, "-2/3", "3/2", "-1")
        self.gives(QUOTIENT, "2/3", "4/3", "1/2")
        self.gives(QUOTIENT, "3/5", "-3/5", "-1")
        self.gives(QUOTIENT, "12", "18", "2/3")

    def test_what_comes_to_nought_has_no_sign(self):
        self.gives(SUM, "1/2", "-0.5", "0")
        self.gives(SUM, "-3", "3", "0")
        self.gives(DIFFERENCE, "-1/3", "-2/6", "0")
        self.gives(DIFFERENCE, "7", "7.00", "0")
        for nought in NOUGHTS:
            for text in ("5", "-5", "2/3", "-2/3", "0.25"):
                self.gives(PRODUCT, nought, text, "0")
                self.gives(PRODUCT, text, nought, "0")
                self.gives(QUOTIENT, nought, text, "0")

    def test_nought_changes_no_sum(self):
        for nought in NOUGHTS:
            for text in ("5", "-5", "2/3", "-2/3"):
                self.gives(SUM, text, nought, text)
                self.gives(SUM, nought, text, text)
                self.gives(DIFFERENCE, text, nought, text)
            self.gives(DIFFERENCE, nought, "2/3", "-2/3")
            self.gives(DIFFERENCE, nought, "-2/3", "2/3")
            for other in NOUGHTS:
                for op in (SUM, DIFFERENCE, PRODUCT):
                    self.gives(op, nought, other, "0")

    def test_a_quotient_by_nought(self):
        for nought in NOUGHTS:
            for text in ("1", "-1", "2/3", "-0.5", BIGGEST, "1/" + BIGGEST) + NOUGHTS:
                self.answers(QUOTIENT, text, nought, NO_QUOTIENT)

    def test_a_quotient_by_a_number_below_nought(self):
        self.gives(QUOTIENT, "1", "-2", "-1/2")
        self.gives(QUOTIENT, "-1", "-2", "1/2")
        self.gives(QUOTIENT, "3", "-3/7", "-7")
        self.gives(QUOTIENT, "-3", "-0.75", "4")
        self.gives(QUOTIENT, "2/3", "-5/7", "-14/15")
        self.gives(QUOTIENT, "-0", "-5", "0")

    def test_an_op_beyond_the_last(self):
        for op in (4, 5, 7, 255, 256, 2147483647, 2147483648, 4294967294, 4294967295):
            for a, b in (("1", "2"), ("0", "0"), ("12.", "2"), ("1", "12."), (str(LIMIT), ""), ("1" * 4097, "x")):
                self.answers(op, a, b, [-1])

    def test_many_pairs(self):
        texts = (
            "0", "-0", "1", "-1", "2", "-06/4", "1/3", "-2/3", "1.50", "-0.125", "7/12", "1234567", "-96.2", "0.0010",
        )
        for a, b in itertools.product(texts, repeat=2):
            for op in OPS:
                self.answers(op, a, b, made(op, Fraction(a), Fraction(b)))

    def test_every_small_fraction(self):
        small = [(top, bottom) for top in range(-6, 7) for bottom in range(1, 7)]
        for (top, bottom), (other, under) in itertools.product(small, repeat=2):
            for op in OPS:
                wanted = made(op, Fraction(top, bottom), Fraction(other, under))
                self.answers(op, f"{top}/{bottom}", f"{other}/{under}", wanted)

    def test_as_many_digits_as_may_be(self):
        self.gives(SUM, "0" * 1299 + "7", "0." + "5" + "0" * 1299, "15/2")
        self.gives(QUOTIENT, "9" * 1300 + "/" + "9" * 1300, "-" + "0" * 1299 + "3", "-1/3")


class NextToTheLimit(Case):

    def test_numerators_of_sums(self):
        for op, sign in ((SUM, ""), (DIFFERENCE, "-")):
            self.gives(op, NEXT, sign + "1", BIGGEST)
            self.answers(op, BIGGEST, sign + "1", NO_FIT)
            self.answers(op, NEXT, sign + "2", NO_FIT)
            self.answers(op, BIGGEST, sign + BIGGEST, NO_FIT)
            self.answers(op, HALF, sign + HALF, NO_FIT)
            self.gives(op, HALF, sign + str(LIMIT // 2 - 1), BIGGEST)
            self.answers(op, THIRD, sign + "1/3", NO_FIT)
            self.answers(op, BIGGEST, sign + "0.5", NO_FIT)
        for op, sign in ((SUM, "-"), (DIFFERENCE, "")):
            self.gives(op, BIGGEST, sign + "1", NEXT)
            self.gives(op, BIGGEST, sign + BIGGEST, "0")
            self.gives(op, THIRD, sign + "1/3", NEXT + "/3")
            self.gives(op, "-" + NEXT, sign + "1", "-" + BIGGEST)
            self.answers(op, "-" + BIGGEST, sign + "1", NO_FIT)
            self.answers(op, "-" + BIGGEST, sign + "0.001", NO_FIT)

    def test_denominators_of_sums(self):
        for op, sign in ((SUM, ""), (DIFFERENCE, "-")):
            self.gives(op, "1/2", f"{sign}1/{LIMIT // 2 - 1}", f"{LIMIT // 2 + 1}/{LIMIT - 2}")
            self.answers(op, "1/2", f"{sign}1/{LIMIT // 2 + 1}", NO_FIT)
            self.gives(op, "1/3", f"{sign}1/{THIRD}", f"{(LIMIT - 1) // 3 + 3}/{LIMIT - 1}")
            self.answers(op, "1/" + BIGGEST, f"{sign}1/{NEXT}", NO_FIT)
            self.answers(op, "-1/" + BIGGEST, f"{sign}1/{HALF}", NO_FIT)

    def test_sums_that_fit_in_least_terms_alone(self):
        for op, sign in ((SUM, ""), (DIFFERENCE, "-")):
            self.gives(op, BIGGEST + "/2", f"{sign}1/2", HALF)
            self.gives(op, BIGGEST + "/2", f"{sign}3/2", str(LIMIT // 2 + 1))
            self.gives(op, BIGGEST + "/2", f"{sign}{BIGGEST}/2", BIGGEST)
            self.answers(op, BIGGEST + "/2", f"{sign}1", NO_FIT)
            self.gives(op, "1/" + HALF, f"{sign}1/{HALF}", f"1/{LIMIT // 4}")
            self.gives(op, f"1/{BIGGEST}", f"{sign}1/{BIGGEST}", f"2/{BIGGEST}")
            self.gives(op, f"{NEXT}/{BIGGEST}", f"{sign}1/{BIGGEST}", "1")
        self.gives(DIFFERENCE, f"{NEXT}/{BIGGEST}", f"{NEXT}/{BIGGEST}", "0")

    def test_products(self):
        for sign in ("", "-"):
            self.gives(PRODUCT, THIRD, sign + "3", sign + BIGGEST)
            self.answers(PRODUCT, HALF, sign + "2", NO_FIT)
            self.answers(PRODUCT, HALF + "/3", sign + "2", NO_FIT)
            self.answers(PRODUCT, BIGGEST, sign + BIGGEST, NO_FIT)
            self.gives(PRODUCT, "1/" + THIRD, sign + "1/3", f"{sign}1/{BIGGEST}")
            self.answers(PRODUCT, "1/" + HALF, sign + "1/2", NO_FIT)
            self.answers(PRODUCT, "3/" + HALF, sign + "0.5", NO_FIT)
            self.answers(PRODUCT, "1/" + BIGGEST, f"{sign}1/{BIGGEST}", NO_FIT)

    def test_products_that_fit_in_least_terms_alone(self):
        for sign in ("", "-"):
            self.gives(PRODUCT, BIGGEST + "/7", sign + "7", sign + BIGGEST)
            self.gives(PRODUCT, "7/" + BIGGEST, sign + "1/7", f"{sign}1/{BIGGEST}")
            self.gives(PRODUCT, HALF + "/3", sign + "3", sign + HALF)
            self.gives(PRODUCT, f"{BIGGEST}/{NEXT}", f"{sign}{NEXT}/{BIGGEST}", sign + "1")

    def test_quotients(self):
        for sign in ("", "-"):
            self.gives(QUOTIENT, THIRD, sign + "1/3", sign + BIGGEST)
            self.answers(QUOTIENT, HALF, sign + "0.5", NO_FIT)
            self.answers(QUOTIENT, BIGGEST, f"{sign}1/{BIGGEST}", NO_FIT)
            self.gives(QUOTIENT, "1/" + THIRD, sign + "3", f"{sign}1/{BIGGEST}")
            self.answers(QUOTIENT, "1/" + HALF, sign + "2", NO_FIT)
            self.answers(QUOTIENT, "1/" + BIGGEST, sign + BIGGEST, NO_FIT)
            self.gives(QUOTIENT, BIGGEST, sign + NEXT, f"{sign}{BIGGEST}/{NEXT}")
            self.gives(QUOTIENT, NEXT, sign + BIGGEST, f"{sign}{NEXT}/{BIGGEST}")
            self.gives(QUOTIENT, "1", sign + BIGGEST, f"{sign}1/{BIGGEST}")
            self.gives(QUOTIENT, "1", f"{sign}1/{BIGGEST}", sign + BIGGEST)

    def test_quotients_that_fit_in_least_terms_alone(self):
        for sign in ("", "-"):
            self.gives(QUOTIENT, BIGGEST, sign + BIGGEST, sign + "1")
            self.gives(QUOTIENT, "1/" + BIGGEST, f"{sign}1/{BIGGEST}", sign + "1")
            self.gives(QUOTIENT, "1/" + BIGGEST, f"{sign}1/{NEXT}", f"{sign}{NEXT}/{BIGGEST}")
            self.gives(QUOTIENT, BIGGEST + "/7", f"{sign}1/7", sign + BIGGEST)
            self.gives(QUOTIENT, "7/" + BIGGEST, sign + "7", f"{sign}1/{BIGGEST}")

    def test_pairs_of_great_numbers(self):
        texts = [
            f"{sign}{text}" for sign in ("", "-") for text in (
                "1", "2", "1/2", "3", BIGGEST, NEXT, HALF, THIRD, "1/" + BIGGEST, "1/" + NEXT, "1/" + HALF,
                f"{BIGGEST}/{NEXT}", f"{NEXT}/{BIGGEST}", f"{BIGGEST}/{HALF}",
            )
        ]
        for a, b in itertools.product(texts, repeat=2):
            for op in OPS:
                self.answers(op, a, b, made(op, Fraction(a), Fraction(b)))


if __name__ == "__main__":
    unittest.main()
