"""Promise 5 for order: how numbers stand to each other, whatever texts tell them."""

import itertools
import unittest
from fractions import Fraction

from outward.figures import order
from tests.helpers import LIMIT, spell

LESS, SAME, GREATER = range(3)

BIGGEST = str(LIMIT - 1)
NEXT = str(LIMIT - 2)


class Order(unittest.TestCase):

    def stands(self, a, wanted, b):
        self.assertEqual(order(spell(a), spell(b)), [wanted], (a[:40], b[:40]))
        self.assertEqual(order(spell(b), spell(a)), [2 - wanted], (b[:40], a[:40]))

    def rising(self, *texts):
        """Each text's number is less than that of any behind it, and the same as its own."""
        for a, b in itertools.combinations(texts, 2):
            self.stands(a, LESS, b)
        for text in texts:
            self.stands(text, SAME, text)

    def same(self, *texts):
        for a, b in itertools.product(texts, repeat=2):
            self.stands(a, SAME, b)

    def test_less_and_greater(self):
        self.stands("1", LESS, "2")
        self.stands("2", GREATER, "1")
        self.stands("9", LESS, "10")
        self.stands("1/3", LESS, "1/2")
        self.stands("0.3", LESS, "1/3")
        self.stands("0.34", GREATER, "1/3")
        self.stands("1.5", LESS, "1.50001")
        self.stands("2/3", GREATER, "0.66")

    def test_both_sides_of_nought(self):
        self.rising(
            "-100", "-10", "-9", "-3/2", "-1.49", "-1", "-1/2", "-1/3", "-0.001", "0",
            "0.001", "1/3", "1/2", "1", "1.49", "3/2", "9", "10", "100",
        )
        self.stands("-2", LESS, "-1")
        self.stands("-1", GREATER, "-2")
        self.stands("-5", LESS, "1/7")
        self.stands("-1/7", LESS, "5")

    def test_the_same(self):
        self.same("1/2", "0.5", "2/4", "00.500", "007/0014")
        self.same("-1/2", "-0.5", "-2/4", "-00.500")
        self.same("0", "-0", "0.00", "-0.00", "0/7", "-0/7", "000", "0." + "0" * 1300)
        self.same("12", "12.0", "12/1", "24/2", "0" * 1298 + "12")
        self.same("-3/2", "-06/4", "-1.50")
        self.same(BIGGEST, BIGGEST + ".00", f"{3 * (LIMIT - 1)}/3")
        self.same("1/" + BIGGEST, f"3/{3 * (LIMIT - 1)}")

    def test_the_last_of_many_digits(self):
        many = "1" + "0" * 1200
        self.rising("-" + many + "2", "-" + many + "1", many + "1", many + "2")
        many = "3." + "141" * 300
        self.rising("-" + many + "2", "-" + many + "1", "-" + many, many, many + "1", many + "2")
        threes = "3" * 1200
        self.rising("0." + threes, "1/3", "0." + threes + "4")
        self.rising("-0." + threes + "4", "-1/3", "-0." + threes)

    def test_great_numbers(self):
        self.rising("-" + BIGGEST, "-" + NEXT, "-1", "0", "1", NEXT, BIGGEST)
        self.rising(NEXT + "/2", BIGGEST + "/2", str(LIMIT // 2))

    def test_fractions_of_great_denominators(self):
        self.rising("-1/" + NEXT, "-1/" + BIGGEST, "0", "1/" + BIGGEST, "1/" + NEXT)
        self.rising(f"{LIMIT - 3}/{NEXT}", f"{NEXT}/{BIGGEST}", "1", f"{BIGGEST}/{NEXT}", f"{NEXT}/{LIMIT - 3}")
        self.rising(f"-{BIGGEST}/{NEXT}", "-1", f"-{NEXT}/{BIGGEST}", f"-{LIMIT - 3}/{NEXT}")

    def test_a_number_and_one_far_off(self):
        self.rising("-" + BIGGEST, "-1/" + BIGGEST, "0", "1/" + BIGGEST, BIGGEST)

    def test_many_pairs(self):
        small = [(top, bottom) for top in range(-8, 9) for bottom in range(1, 8)]
        for (top, bottom), (other, under) in itertools.product(small, repeat=2):
            first, second = Fraction(top, bottom), Fraction(other, under)
            wanted = 1 + (first > second) - (first < second)
            self.assertEqual(order(spell(f"{top}/{bottom}"), spell(f"{other}/{under}")), [wanted])


if __name__ == "__main__":
    unittest.main()
