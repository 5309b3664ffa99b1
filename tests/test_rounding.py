"""Promise 2: numbers rounded at a place, each way, and written as units of it."""

import unittest
from fractions import Fraction

from outward.figures import at
from tests.helpers import LIMIT, PLACES, WAYS, fraction_text, place_text, spell, told

# Numbers in their order, on both sides of 0: units, ties, what lies next to them, and numbers in between.
LITTLE = Fraction(1, 10 ** 300)
HALF = Fraction(1, 2)
NUMBERS = sorted(
    (size + shift) * unit * sign
    for size in (0, 1, 2, 3, 9, 10, 49, 99)
    for shift in (0, LITTLE, Fraction(1, 3), HALF - LITTLE, HALF, HALF + LITTLE, 1 - LITTLE)
    for unit in (Fraction(1, 10 ** 60), Fraction(1, 100), 1, 1000, 10 ** 60)
    for sign in (-1, 1)
)


def answered(number, d, way):
    """What's answered for a Fraction, as a Fraction."""
    return Fraction(bytes(at(d, way, spell(fraction_text(number)))[1:]).decode("ascii"))


class Rounding(unittest.TestCase):

    def gives(self, text, d, way, wanted):
        self.assertEqual(at(d, way, spell(text)), told(wanted), (text[:40], d, way))

    def ways(self, text, d, *wanted):
        for way in WAYS:
            self.gives(text, d, way, wanted[way])

    def test_the_run(self):
        self.gives("2.5", 0, 0, "2")
        self.gives("3.5", 0, 0, "4")
        self.gives("-2.5", 0, 1, "-2")

    def test_each_way(self):
        self.ways("2.1", 0, "2", "3", "2", "3", "2")
        self.ways("2.5", 0, "2", "3", "2", "3", "2")
        self.ways("2.9", 0, "3", "3", "2", "3", "2")
        self.ways("1/3", 2, "0.33", "0.34", "0.33", "0.34", "0.33")
        self.ways("2/3", 2, "0.67", "0.67", "0.66", "0.67", "0.66")
        self.ways("1251", -2, "1300", "1300", "1200", "1300", "1200")

    def test_each_way_below_nought(self):
        self.ways("-2.1", 0, "-2", "-2", "-3", "-3", "-2")
        self.ways("-2.5", 0, "-2", "-2", "-3", "-3", "-2")
        self.ways("-2.9", 0, "-3", "-2", "-3", "-3", "-2")
        self.ways("-1/3", 2, "-0.33", "-0.33", "-0.34", "-0.34", "-0.33")
        self.ways("-1251", -2, "-1300", "-1200", "-1300", "-1300", "-1200")

    def test_ties_go_to_even_units(self):
        for text, wanted in (
            ("0.5", "0"), ("1.5", "2"), ("2.5", "2"), ("3.5", "4"), ("9.5", "10"), ("10.5", "10"),
            ("-0.5", "0"), ("-1.5", "-2"), ("-2.5", "-2"), ("-3.5", "-4"), ("-9.5", "-10"), ("-10.5", "-10"),
        ):
            self.gives(text, 0, 0, wanted)
        self.gives("0.125", 2, 0, "0.12")
        self.gives("0.375", 2, 0, "0.38")
        self.gives("-0.125", 2, 0, "-0.12")
        self.gives("1250", -2, 0, "1200")
        self.gives("1350", -2, 0, "1400")
        self.gives("-1350", -2, 0, "-1400")

    def test_next_to_a_tie(self):
        little = "0" * 500 + "1"
        self.gives("2.5" + little, 0, 0, "3")
        self.gives("2.4" + "9" * 500, 0, 0, "2")
        self.gives("-2.5" + little, 0, 0, "-3")
        self.gives("-2.4" + "9" * 500, 0, 0, "-2")

    def test_a_number_that_is_whole_units_stays(self):
        for way in WAYS:
            self.gives("12.5", 2, way, "12.50")
            self.gives("-12.5", 1, way, "-12.5")
            self.gives("1200", -2, way, "1200")
            self.gives("-1200", -2, way, "-1200")
            self.gives("7", 0, way, "7")
            self.gives("-7", 3, way, "-7.000")
            self.gives("1/4", 2, way, "0.25")

    def test_what_is_nought_has_no_sign(self):
        for way in WAYS:
            self.gives("0", 0, way, "0")
            self.gives("-0", 0, way, "0")
            self.gives("-0.0", 2, way, "0.00")
            self.gives("0", -3, way, "0")
        self.ways("0.001", 2, "0.00", "0.01", "0.00", "0.01", "0.00")
        self.ways("-0.001", 2, "0.00", "0.00", "-0.01", "-0.01", "0.00")
        self.ways("40", -2, "0", "100", "0", "100", "0")
        self.ways("-40", -2, "0", "0", "-100", "-100", "0")
        self.ways("-0.4", 0, "0", "0", "-1", "-1", "0")

    def test_units_as_a_text(self):
        self.gives("12.5", 2, 0, "12.50")
        self.gives("1234", -2, 0, "1200")
        self.gives("0", 2, 0, "0.00")
        self.gives("0.07", 1, 0, "0.1")
        self.gives("-0.05", 2, 0, "-0.05")
        self.gives("10", -1, 0, "10")
        self.gives("99.96", 1, 0, "100.0")
        self.gives("9.96", 1, 4, "9.9")

    def test_the_outermost_places(self):
        self.gives("1/3", 60, 0, "0." + "3" * 60)
        self.gives("1/3", 60, 1, "0." + "3" * 59 + "4")
        self.gives("-2/3", 60, 2, "-0." + "6" * 59 + "7")
        self.gives("5", 60, 0, "5." + "0" * 60)
        self.gives("0", 60, 0, "0." + "0" * 60)
        self.gives("1", -60, 0, "0")
        self.gives("1", -60, 1, "1" + "0" * 60)
        self.gives("-1", -60, 2, "-1" + "0" * 60)
        self.gives("5" + "0" * 60, -60, 0, "5" + "0" * 60)
        self.gives("25" + "0" * 59, -60, 0, "2" + "0" * 60)
        self.gives("35" + "0" * 59, -60, 0, "4" + "0" * 60)
        self.gives("0", -60, 3, "0")

    def test_what_is_rounded_need_not_fit(self):
        top = LIMIT - 1
        self.gives(str(top), 60, 0, f"{top}." + "0" * 60)
        self.gives(str(-top), -60, 3, str((-top) // 10 ** 60 * 10 ** 60))
        self.gives(f"1/{top}", -60, 1, "1" + "0" * 60)
        self.gives(f"{top}/2", 0, 1, str(LIMIT // 2))

    def test_never_a_unit_away_and_on_the_told_side(self):
        for number in NUMBERS:
            for d in (-60, -3, -1, 0, 1, 2, 60):
                unit = Fraction(10) ** -d
                nearest, up, down, away, toward = (answered(number, d, way) for way in WAYS)
                for units in (nearest, up, down, away, toward):
                    self.assertEqual(units % unit, 0)
                    self.assertLess(abs(units - number), unit)
                self.assertLessEqual(abs(nearest - number), unit / 2)
                if abs(nearest - number) == unit / 2:
                    self.assertEqual(nearest / unit % 2, 0)
                self.assertGreaterEqual(up, number)
                self.assertLessEqual(down, number)
                self.assertGreaterEqual(abs(away), abs(number))
                self.assertLessEqual(abs(toward), abs(number))
                self.assertGreaterEqual(away * number, 0)
                self.assertGreaterEqual(toward * number, 0)

    def test_in_order(self):
        for d in (-60, -3, -1, 0, 1, 2, 60):
            for way in WAYS:
                answers = [answered(number, d, way) for number in NUMBERS]
                self.assertEqual(answers, sorted(answers), (d, way))

    def test_every_place(self):
        for text in ("0", "1/3", "-2/7", "98765432109876543210.98765432109876543210", "-5", "1" + "5" * 70):
            for d in PLACES:
                for way in WAYS:
                    self.gives(text, d, way, place_text(Fraction(text), d, way))

    def test_many_fractions(self):
        for top in range(-60, 61):
            for bottom in (1, 2, 3, 4, 7, 8, 20):
                for d in (-2, -1, 0, 1, 2):
                    for way in WAYS:
                        text = f"{top}/{bottom}"
                        self.gives(text, d, way, place_text(Fraction(text), d, way))


if __name__ == "__main__":
    unittest.main()
