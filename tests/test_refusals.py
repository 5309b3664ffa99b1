"""Promise 1 for exact and at: each refusal alone, and the first of several."""

import unittest

from outward.figures import at, exact
from tests.helpers import LIMIT, spell, told

LEAST_D = -2147483648
GREATEST_D = 2147483647
GREATEST_WAY = 4294967295

NO_PLACES = (-61, 61, -62, 62, -1000, 1000, LEAST_D, GREATEST_D)
NO_WAYS = (5, 6, 7, 256, GREATEST_WAY - 1, GREATEST_WAY)

GOOD = "2.5"
TOO_LONG = "1" * 4097
FAULTY = "12."
TOO_LARGE = str(LIMIT)


class Refusals(unittest.TestCase):

    def test_each_alone(self):
        for d in NO_PLACES:
            self.assertEqual(at(d, 0, spell(GOOD)), [-1], d)
        for way in NO_WAYS:
            self.assertEqual(at(0, way, spell(GOOD)), [-1], way)
        self.assertEqual(at(0, 0, spell(TOO_LONG)), [-1])
        self.assertEqual(at(0, 0, spell(FAULTY)), [-3, 0, 3])
        self.assertEqual(at(0, 0, spell(TOO_LARGE)), [-6])
        self.assertEqual(exact(spell(TOO_LONG)), [-1])
        self.assertEqual(exact(spell(FAULTY)), [-3, 0, 3])
        self.assertEqual(exact(spell(TOO_LARGE)), [-6])

    def test_the_ends_are_taken(self):
        self.assertEqual(at(-60, 0, spell(GOOD)), told("0"))
        self.assertEqual(at(60, 4, spell(GOOD)), told("2.5" + "0" * 59))

    def test_arguments_come_ahead_of_texts(self):
        for text in (TOO_LONG, FAULTY, TOO_LARGE, ""):
            for d in NO_PLACES:
                for way in (0, 4) + NO_WAYS:
                    self.assertEqual(at(d, way, spell(text)), [-1])
            for way in NO_WAYS:
                self.assertEqual(at(0, way, spell(text)), [-1])

    def test_too_long_comes_ahead_of_faulty(self):
        for text in ("x" * 4097, "1/" + "0" * 5000, "-" * 4097):
            self.assertEqual(exact(spell(text[:5000])), [-1])
            self.assertEqual(at(0, 0, spell(text[:5000])), [-1])

    def test_faulty_comes_ahead_of_too_large(self):
        for text, place in (
            (TOO_LARGE + "x", len(TOO_LARGE)), (TOO_LARGE + ".", len(TOO_LARGE) + 1), ("9" * 1301, 1300),
            (TOO_LARGE + "/00", len(TOO_LARGE) + 1), ("1/" + TOO_LARGE + " ", len(TOO_LARGE) + 2),
        ):
            self.assertEqual(exact(spell(text)), [-3, 0, place])
            self.assertEqual(at(0, 0, spell(text)), [-3, 0, place])

    def test_too_large_stays_so_where_it_would_be_rounded_off(self):
        for way in range(5):
            self.assertEqual(at(-60, way, spell("1/" + TOO_LARGE)), [-6])
            self.assertEqual(at(60, way, spell("0." + "0" * 1299 + "1")), [-6])


if __name__ == "__main__":
    unittest.main()
