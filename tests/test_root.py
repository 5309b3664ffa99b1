"""Promise 4: roots are enclosed within a unit, from below and from above; and of promise 1 what root refuses."""

import itertools
import random
import unittest
from fractions import Fraction

from outward.figures import root
from tests.helpers import LIMIT, PLACES, fraction_text, root_text, spell, told

BELOW, ABOVE = 0, 1

BELOW_NOUGHT = [-2]
TOO_LARGE = [-6]

LEAST_D = -2147483648
GREATEST_D = 2147483647
GREATEST_ABOVE = 4294967295

NO_PLACES = (-61, 61, -62, 62, -1000, 1000, LEAST_D, LEAST_D + 1, GREATEST_D - 1, GREATEST_D)
NO_SIDES = (2, 3, 7, 255, 256, 2147483647, 2147483648, GREATEST_ABOVE - 1, GREATEST_ABOVE)

BIGGEST = str(LIMIT - 1)
LARGE = str(LIMIT)
LONG = "1" * 4097

# The root of 2^4096.
ROOT_OF_LIMIT = 2 ** 2048


class Case(unittest.TestCase):

    def answers(self, d, above, text, wanted):
        self.assertEqual(root(d, above, spell(text)), wanted, (d, above, text[:40]))

    def gives(self, d, text, below, above):
        self.answers(d, BELOW, text, told(below))
        self.answers(d, ABOVE, text, told(above))

    def gives_both(self, d, text, wanted):
        self.gives(d, text, wanted, wanted)

    def encloses(self, number, d):
        """Check the roots of a Fraction by their squares."""
        unit = Fraction(10) ** -d
        text = fraction_text(number)
        below, above = [root(d, side, spell(text)) for side in (BELOW, ABOVE)]
        low, high = [Fraction(bytes(answer[1:]).decode("ascii")) for answer in (below, above)]
        self.assertEqual([low % unit, high % unit], [0, 0])
        self.assertLessEqual(low ** 2, number)
        self.assertGreater((low + unit) ** 2, number)
        self.assertGreaterEqual(high ** 2, number)
        if number == 0:
            self.assertEqual(high, 0)
        else:
            self.assertLess((high - unit) ** 2, number)
        self.assertEqual(high - low, 0 if low ** 2 == number else unit)
        self.assertEqual(below, told(root_text(number, d, BELOW)))
        self.assertEqual(above, told(root_text(number, d, ABOVE)))


class Root(Case):

    def test_the_run(self):
        self.answers(3, 0, "2", told("1.414"))
        self.answers(3, 1, "2", told("1.415"))

    def test_nought(self):
        for text in ("0", "-0", "000", "-0.00", "0/7", "-0/7", "0." + "0" * 1300):
            self.gives_both(0, text, "0")
            self.gives_both(3, text, "0.000")
            self.gives_both(60, text, "0." + "0" * 60)
            self.gives_both(-3, text, "0")
            self.gives_both(-60, text, "0")

    def test_squares(self):
        for size in (1, 2, 3, 9, 10, 12, 99, 100, 12345, 10 ** 30 + 7):
            for text in (str(size ** 2), f"{size ** 2}.00", f"{3 * size ** 2}/3"):
                self.gives_both(0, text, str(size))
                self.gives_both(2, text, f"{size}.00")
                self.gives_both(60, text, f"{size}.{'0' * 60}")
        self.gives_both(-1, "100", "10")
        self.gives_both(-2, "1440000", "1200")
        self.gives_both(-60, "9" + "0" * 120, "3" + "0" * 60)

    def test_squares_of_fractions(self):
        for text in ("9/4", "2.25", "36/16", "0002.2500"):
            self.gives(0, text, "1", "2")
            self.gives_both(1, text, "1.5")
            self.gives_both(2, text, "1.50")
        self.gives(0, "1/9", "0", "1")
        self.gives(3, "1/9", "0.333", "0.334")
        self.gives(60, "1/9", "0." + "3" * 60, "0." + "3" * 59 + "4")
        self.gives(3, "4/9", "0.666", "0.667")
        self.gives_both(2, "0.0625", "0.25")
        self.gives(1, "0.0625", "0.2", "0.3")
        self.gives_both(60, "0." + "0" * 119 + "4", "0." + "0" * 59 + "2")

    def test_next_to_a_square(self):
        self.gives(0, "143", "11", "12")
        self.gives_both(0, "144", "12")
        self.gives(0, "145", "12", "13")
        self.gives(0, "168", "12", "13")
        self.gives(0, "143.9999", "11", "12")
        self.gives(0, "144.0001", "12", "13")
        self.gives(0, "431/3", "11", "12")
        self.gives(0, "433/3", "12", "13")
        self.gives(1, "2.2499", "1.4", "1.5")
        self.gives(1, "2.2501", "1.5", "1.6")
        self.gives(-1, "399", "10", "20")
        self.gives_both(-1, "400", "20")
        self.gives(-1, "401", "20", "30")

    def test_not_a_root_of_a_rounded_number(self):
        little = "0" * 1199 + "1"
        nines = "9" * 1200
        for d in (-2, -1, 0, 1, 2, 30, 60):
            low, four, high = [root_text(Fraction(size), d, side) for size, side in (
                (4 - Fraction(1, 10 ** 1200), BELOW), (4, BELOW), (4 + Fraction(1, 10 ** 1200), ABOVE))]
            above = root_text(Fraction(4), d, ABOVE)
            self.gives(d, "3." + nines, low, above)
            self.gives(d, "4." + little, four, high)
        self.gives(0, "4." + little, "2", "3")
        self.gives(0, "3." + nines, "1", "2")
        self.gives(60, "4." + little, f"2.{'0' * 60}", f"2.{'0' * 59}1")
        self.gives(60, "3." + nines, f"1.{'9' * 60}", f"2.{'0' * 60}")
        self.gives(-1, "100." + little, "10", "20")
        self.gives(-1, "99." + nines, "0", "10")
        self.gives(-60, "1" + "0" * 120 + "." + "0" * 900 + "1", "1" + "0" * 60, "2" + "0" * 60)

    def test_nought_units_from_below_and_one_from_above(self):
        self.gives(0, "0.001", "0", "1")
        self.gives(0, "0.999", "0", "1")
        self.gives(0, "1/3", "0", "1")
        self.gives(2, "0.00001", "0.00", "0.01")
        self.gives(-1, "99", "0", "10")
        self.gives(-60, "1", "0", "1" + "0" * 60)
        self.gives(-60, "9" * 120, "0", "1" + "0" * 60)
        self.gives(60, "1/" + BIGGEST, "0." + "0" * 60, "0." + "0" * 59 + "1")
        self.gives(60, "0." + "0" * 120 + "1", "0." + "0" * 60, "0." + "0" * 59 + "1")

    def test_several_places(self):
        ahead = "1.4142135623730950488016887242096980785696718753769480731766"
        self.gives(60, "2", ahead + "79", ahead + "80")
        self.gives(1, "2", "1.4", "1.5")
        self.gives(0, "2", "1", "2")
        self.gives(-1, "2", "0", "10")
        self.gives(-1, "20000", "140", "150")
        self.gives(-2, "20000", "100", "200")
        self.gives(3, "10", "3.162", "3.163")
        self.gives(2, "12.5", "3.53", "3.54")
        self.gives(2, "1/3", "0.57", "0.58")
        self.gives(0, "99", "9", "10")
        self.gives(1, "99.9", "9.9", "10.0")

    def test_every_place(self):
        for text in ("0", "1", "2", "1/3", "98765432109876543210.98765432109876543210", "1" + "5" * 130, "0.00001"):
            for d in PLACES:
                self.encloses(Fraction(text), d)

    def test_every_small_number(self):
        for top, bottom, d in itertools.product(range(40), range(1, 10), (-1, 0, 1, 2)):
            self.encloses(Fraction(top, bottom), d)

    def test_many_numbers(self):
        # Always the same ones: the seed is written.
        chance = random.Random(4)
        for step in range(300):
            size = chance.randint(0, 10 ** chance.randint(0, 200))
            self.encloses(Fraction(size, chance.randint(1, 10 ** chance.randint(0, 100))), chance.randint(-60, 60))
            self.encloses(Fraction(size ** 2 + chance.randint(0, 1), chance.randint(1, 50) ** 2), 2)


class NextToTheLimit(Case):

    def test_great_numbers(self):
        size = ROOT_OF_LIMIT
        self.gives(0, BIGGEST, str(size - 1), str(size))
        self.gives_both(0, str((size - 1) ** 2), str(size - 1))
        self.gives(0, str((size - 1) ** 2 - 1), str(size - 2), str(size - 1))
        self.gives(0, str((size - 1) ** 2 + 1), str(size - 1), str(size))
        self.gives_both(60, str((size - 1) ** 2), f"{size - 1}.{'0' * 60}")
        for d in (-60, -59, -1, 0, 1, 59, 60):
            for number in (LIMIT - 1, LIMIT - 2, (size - 1) ** 2, (size - 1) ** 2 + 1, (size - 1) ** 2 - 1, LIMIT // 2):
                self.encloses(Fraction(number), d)

    def test_great_denominators(self):
        size = ROOT_OF_LIMIT
        for d in (-60, 0, 1, 60):
            for top in (1, 2, LIMIT - 1, LIMIT - 3, (size - 1) ** 2, (size - 3) ** 2):
                for bottom in (LIMIT - 1, LIMIT - 2, (size - 1) ** 2, (size - 5) ** 2, LIMIT // 2, 10 ** 1233):
                    self.encloses(Fraction(top, bottom), d)
        self.gives_both(0, f"{(size - 1) ** 2}/{(size - 1) ** 2}", "1")
        self.gives(0, f"{(size - 1) ** 2 - 1}/{(size - 1) ** 2}", "0", "1")
        self.gives(0, f"{(size - 1) ** 2 + 1}/{(size - 1) ** 2}", "1", "2")


class Refusals(Case):

    REFUSED = (
        (LONG, [-1]), ("x" * 4097, [-1]), ("-" + "1" * 4096, [-1]), ("12.", [-3, 0, 3]), ("", [-3, 0, 0]),
        ("-", [-3, 0, 1]), ("1/0", [-3, 0, 2]), ("-1/0", [-3, 0, 3]), ("4 +- 1", [-3, 0, 1]),
        ("1" * 4096, [-3, 0, 1300]), (LARGE + "x", [-3, 0, len(LARGE)]),
        (LARGE, TOO_LARGE), ("-" + LARGE, TOO_LARGE), ("1/" + LARGE, TOO_LARGE), ("-1/" + LARGE, TOO_LARGE),
    )
    SIGNED = ("-1", "-4", "-0.001", "-1/3", "-9/4", "-" + BIGGEST, "-1/" + BIGGEST)

    def test_each_alone(self):
        for d in NO_PLACES:
            self.answers(d, 0, "4", [-1])
            self.answers(d, 1, "4", [-1])
        for above in NO_SIDES:
            self.answers(0, above, "4", [-1])
        for above in (BELOW, ABOVE):
            for d in (-60, 0, 60):
                for text, wanted in self.REFUSED:
                    self.answers(d, above, text, wanted)
                for text in self.SIGNED:
                    self.answers(d, above, text, BELOW_NOUGHT)

    def test_the_ends_are_taken(self):
        self.gives_both(-60, "4" + "0" * 120, "2" + "0" * 60)
        self.gives_both(60, "4", "2." + "0" * 60)

    def test_whole_numbers_come_ahead_of_texts(self):
        for text in self.SIGNED + tuple(text for text, wanted in self.REFUSED):
            for d in NO_PLACES:
                for above in (BELOW, ABOVE) + NO_SIDES:
                    self.answers(d, above, text, [-1])
            for d in (-60, 0, 60):
                for above in NO_SIDES:
                    self.answers(d, above, text, [-1])

    def test_texts_come_ahead_of_a_number_below_nought(self):
        self.answers(0, 0, "-" + LARGE, TOO_LARGE)
        self.answers(0, 0, "-4x", [-3, 0, 2])
        self.answers(0, 0, "-" + "4" * 4096, [-1])

    def test_nought_with_a_sign_is_not_below(self):
        for text in ("-0", "-0.0", "-0/3", "-000"):
            self.gives_both(1, text, "0.0")


if __name__ == "__main__":
    unittest.main()
