"""Promise 1 for two, order and shown: each refusal in the first text and in the second, and the first of several."""

import itertools
import unittest

from outward.figures import order, shown, two
from tests.helpers import LIMIT, OPS, fault, spell

QUOTIENT = 3
NO_OPS = (4, 5, 4294967294, 4294967295)

LONG = "1" * 4097
LARGE = str(LIMIT)

# Texts that are refused, with what is told of each as the first text and as the second.
REFUSED = (
    [(text, [-1], [-1]) for text in (LONG, "x" * 4097, "1" * 5000, "1/" + "0" * 4500)]
    + [
        (text, [-3, 0, place], [-3, 1, place]) for text, place in (
            ("", 0), ("-", 1), ("12.", 3), ("x", 0), (" 1", 0), ("1 ", 1), ("-1/", 3), ("1/0", 2), ("-12/000", 4),
            ("+1", 0), ("1.5/2", 3), ("--1", 1), ("10.0004 +- 0.0013", 7),
            ("1" * 1301, 1300), ("2." + "1" * 1301, 1302),
            ("1/" + "0" * 1300, 2), ("1/" + "0" * 1301, 1302), ("1" * 4096, 1300), (LARGE + ".", len(LARGE) + 1),
        )
    ]
    + [(text, [-6], [-6]) for text in (LARGE, "-" + LARGE, "1/" + LARGE, f"{LIMIT + 1}/2", "0." + "0" * 1299 + "1")]
)
TAKEN = ("1", "-2.50", "0", "-0", "7/3", str(LIMIT - 1))


def calls():
    """Every way to call something with two texts that is not refused for its op."""
    return [order, shown] + [lambda a, b, op=op: two(op, a, b) for op in OPS]


class Refusals(unittest.TestCase):

    def tells(self, a, b, wanted):
        for call in calls():
            self.assertEqual(call(spell(a), spell(b)), wanted, (a[:40], b[:40]))

    def test_the_first_text_alone(self):
        for text, first, second in REFUSED:
            for taken in TAKEN:
                self.tells(text, taken, first)

    def test_the_second_text_alone(self):
        for text, first, second in REFUSED:
            for taken in TAKEN:
                self.tells(taken, text, second)

    def test_the_first_text_comes_ahead_of_the_second(self):
        for (a, first, second), (b, other_first, other_second) in itertools.product(REFUSED, repeat=2):
            self.tells(a, b, first)

    def test_some_of_these_by_themselves(self):
        self.tells(LARGE, "12.", [-6])
        self.tells(LARGE, LONG, [-6])
        self.tells("12.", LONG, [-3, 0, 3])
        self.tells("12.", LARGE, [-3, 0, 3])
        self.tells("12.", "", [-3, 0, 3])
        self.tells("5", "", [-3, 1, 0])
        self.tells("5", "1/0", [-3, 1, 2])
        self.tells("0", LARGE, [-6])

    def test_every_fault_of_a_short_text(self):
        for length in range(4):
            for data in itertools.product(b"-05./x", repeat=length):
                place = fault(bytes(data))
                if place is not None:
                    for call in calls():
                        self.assertEqual(call(list(data), spell("1")), [-3, 0, place], bytes(data))
                        self.assertEqual(call(spell("1"), list(data)), [-3, 1, place], bytes(data))

    def test_an_op_comes_ahead_of_texts(self):
        for op in NO_OPS:
            for a, b in itertools.product(TAKEN + tuple(text for text, first, second in REFUSED), repeat=2):
                self.assertEqual(two(op, spell(a), spell(b)), [-1])

    def test_texts_come_ahead_of_a_quotient_by_nought(self):
        for nought in ("0", "-0", "0.00", "0/7"):
            for text, first, second in REFUSED:
                self.assertEqual(two(QUOTIENT, spell(text), spell(nought)), first)
                self.assertEqual(two(QUOTIENT, spell(nought), spell(text)), second)
            self.assertEqual(two(QUOTIENT, spell(nought), spell("1/0")), [-3, 1, 2])
            self.assertEqual(two(QUOTIENT, spell(str(LIMIT - 1)), spell(nought)), [-5])


if __name__ == "__main__":
    unittest.main()
