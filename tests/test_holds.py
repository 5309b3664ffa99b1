"""Promise 3 for holds: what's told holds all that a value and its bound hold, or not; and of promise 1 its refusals."""

import itertools
import random
import unittest
from fractions import Fraction

from outward.figures import holds, shown
from tests.helpers import LIMIT, bounded_fault, fraction_text, held, spell

YES = [1]
NO = [0]

BELOW_NOUGHT = [-2]
TOO_LARGE = [-6]

BIGGEST = str(LIMIT - 1)
LARGE = str(LIMIT)
LONG = "1" * 4097

# Texts that are refused wherever a number is asked for, with the place where the text alone is told.
FAULTY = (
    ("", 0), ("-", 1), ("12.", 3), ("x", 0), (" 1", 0), ("1 ", 1), ("-1/", 3), ("1/0", 2), ("-12/000", 4), ("+1", 0),
    ("1.5/2", 3), ("--1", 1), ("10.0004 +- 0.0013", 7), ("1" * 1301, 1300), ("2." + "1" * 1301, 1302),
    ("1/" + "0" * 1300, 2), ("1/" + "0" * 1301, 1302), ("1" * 4096, 1300), (LARGE + ".", len(LARGE) + 1),
)
FAULTY_BOUNDED = (
    ("", 0), ("5", 1), ("5 ", 2), ("5 +", 3), ("5 +-", 4), ("5 +- ", 5), ("5 +- -1", 5), ("5 +- 1 ", 6),
    ("5+-1", 1), ("5 -+ 1", 2), ("12. +- 1", 3), ("1/0 +- 1", 2), ("5 +- 1/0", 7), ("5 +- 12.", 8),
    ("5 +- " + "1" * 1301, 1305), ("1" * 4096, 1300), (LARGE, len(LARGE)), (LARGE + " +- -1", len(LARGE) + 4),
)
LARGE_NUMBERS = (LARGE, "-" + LARGE, "1/" + LARGE, f"{LIMIT + 1}/2", "0." + "0" * 1299 + "1", "9" * 1300)
BELOW = ("-1", "-0.001", "-1/3", "-" + BIGGEST, "-1/" + BIGGEST)
NOUGHTS = ("0", "-0", "0.00", "-0.0", "0/7", "-0/7")


class Case(unittest.TestCase):

    def answers(self, t, v, b, wanted):
        self.assertEqual(holds(spell(t), spell(v), spell(b)), wanted, (t[:40], v[:40], b[:40]))

    def on_both_sides(self, t, v, b, wanted):
        """The same, and with both values on the other side of 0."""
        self.answers(t, v, b, wanted)
        self.answers("-" + t, "-" + v, b, wanted)


class Holds(Case):

    def test_the_run(self):
        self.answers("10.0004 +- 0.0013", "10.00042", "0.00127", YES)

    def test_the_edges(self):
        for t in ("10 +- 3", "10.0 +- 3.00", "20/2 +- 9/3"):
            for v, b, wanted in (
                ("10", "3", YES), ("10", "2.9999", YES), ("10", "3.0001", NO), ("10", "31/10", NO), ("10", "0", YES),
                ("7", "0", YES), ("13", "0", YES), ("6.9999", "0", NO), ("13.0001", "0", NO), ("20/3", "0", NO),
                ("8", "1", YES), ("12", "1", YES), ("8", "1.0001", NO), ("12", "1.0001", NO), ("7.9999", "1", NO),
                ("12.0001", "1", NO), ("12.5", "1/2", YES), ("12.5", "2/3", NO),
                ("7.5", "1/2", YES), ("7.5", "2/3", NO),
                ("5", "0", NO), ("15", "0", NO), ("0", "100", NO), ("10", "100", NO), ("5", "2", NO), ("15", "2", NO),
            ):
                self.on_both_sides(t, v, b, wanted)

    def test_one_edge_alone_is_not_enough(self):
        self.on_both_sides("10 +- 3", "9", "3", NO)
        self.on_both_sides("10 +- 3", "11", "3", NO)
        self.on_both_sides("10 +- 3", "11", "2", YES)
        self.on_both_sides("10 +- 3", "9", "2", YES)

    def test_bounds_of_nought(self):
        for nought in NOUGHTS:
            self.on_both_sides("1/3 +- 0", "2/6", nought, YES)
            self.on_both_sides("0.5 +- 0.00", "1/2", nought, YES)
            self.on_both_sides("1/3 +- 0", "0.333", nought, NO)
            self.on_both_sides("1/3 +- 0", "0.334", nought, NO)
            self.answers("1/3 +- 0", "-1/3", nought, NO)
            self.answers("-1/3 +- 0", "1/3", nought, NO)
        self.on_both_sides("1/3 +- 0/5", "1/3", "0.0001", NO)

    def test_nought_with_a_sign(self):
        for t, v, b in itertools.product(NOUGHTS, repeat=3):
            for bound in ("0", "0.00", "0/7", "5"):
                self.answers(f"{t} +- {bound}", v, b, YES)

    def test_both_sides_of_nought(self):
        self.answers("0 +- 3", "-1", "2", YES)
        self.answers("0 +- 3", "1", "2", YES)
        self.answers("0 +- 3", "-1", "2.01", NO)
        self.answers("0 +- 3", "1", "2.01", NO)
        self.answers("1 +- 3", "-1", "1", YES)
        self.answers("1 +- 3", "-1", "1.5", NO)
        self.answers("-1 +- 3", "1", "1", YES)
        self.answers("-1 +- 3", "1", "1.5", NO)
        self.answers("10 +- 3", "-10", "3", NO)
        self.answers("-10 +- 3", "10", "3", NO)

    def test_fractions_and_points(self):
        self.on_both_sides("1/3 +- 1/6", "0.5", "0", YES)
        self.on_both_sides("1/3 +- 1/6", "1/4", "1/12", YES)
        self.on_both_sides("1/3 +- 1/6", "1/4", "1/11", NO)
        self.on_both_sides("1/3 +- 1/6", "5/12", "1/12", YES)
        self.on_both_sides("1/3 +- 1/6", "5/12", "0.0834", NO)
        self.on_both_sides("0.33 +- 0.01", "1/3", "0", YES)
        self.on_both_sides("0.33 +- 0.01", "1/3", "1/150", YES)
        self.on_both_sides("0.33 +- 0.01", "1/3", "1/149", NO)
        self.on_both_sides("0.33 +- 0.00", "1/3", "0", NO)

    def test_a_difference_far_behind(self):
        little = "0." + "0" * 1199 + "1"
        self.on_both_sides("10 +- 3", "13", little, NO)
        self.on_both_sides("10 +- 3", "7", little, NO)
        self.on_both_sides("10 +- 3", "10", "3" + little[1:], NO)
        self.on_both_sides("10 +- 3" + little[1:], "10", "3" + little[1:], YES)
        self.on_both_sides("10 +- 3" + little[1:], "13", little, YES)

    def test_as_told_by_distances(self):
        sizes = ("0", "1", "2", "-1", "-3", "1/2", "-2/3", "1.5", "-0.25", "10")
        bounds = ("0", "1", "2", "1/2", "2/3", "1.5", "11")
        for t, s, v, b in itertools.product(sizes, bounds, sizes, bounds):
            self.answers(f"{t} +- {s}", v, b, held(Fraction(t), Fraction(s), Fraction(v), Fraction(b)))

    def test_what_is_shown_is_held(self):
        # Always the same ones: the seed is written.
        chance = random.Random(3)
        for step in range(400):
            value = Fraction(chance.randint(-10 ** 9, 10 ** 9), chance.randint(1, 10 ** chance.randint(0, 9)))
            bound = Fraction(chance.randint(0, 10 ** 4), chance.randint(1, 10 ** chance.randint(0, 9)))
            if step % 3 == 0:
                bound = Fraction(0)
            value *= Fraction(10) ** chance.randint(-70, 70)
            bound *= Fraction(10) ** chance.randint(-70, 50)
            self.is_held(fraction_text(value), fraction_text(bound))

    def test_what_is_shown_next_to_an_edge_is_held(self):
        values = ("0", "-0", "1/3", "-2/3", "10.00042", "-1234567", "2.5", "-3.5", "99.96", "-0.00004", BIGGEST)
        bounds = ("0", "-0", "0.00127", "96.2", "99.2", "98.7", "99", "9.9", "9.91", "1/3", "1/" + BIGGEST,
                  "99" + "0" * 60)
        for v, b in itertools.product(values, bounds):
            self.is_held(v, b)

    def is_held(self, v, b):
        answer = shown(spell(v), spell(b))
        if answer[0] >= 0:
            self.assertEqual(holds(answer[1:], spell(v), spell(b)), YES, (v[:40], b[:40]))
        else:
            self.assertIn(answer, ([-5], [-6]))


class FirstTexts(Case):

    def test_numbers_that_do_not_fit(self):
        for sign in ("", "-"):
            self.answers(f"{sign}{LARGE} +- {LARGE}", "0", "0", YES)
            self.answers(f"{sign}{LARGE} +- {LIMIT - 1}", "0", "0", NO)
            self.answers(f"{sign}{LARGE} +- {LIMIT - 1}", sign + "1", "0", YES)
            self.answers(f"{sign}{LARGE} +- 1", f"{sign}{BIGGEST}", "0", YES)
            self.answers(f"{sign}{LARGE} +- 1", f"{sign}{BIGGEST}", "1/2", NO)
            self.answers(f"{sign}{LARGE} +- 0", f"{sign}{BIGGEST}", "0", NO)
            self.answers(f"{sign}{LARGE} +- 0", f"{sign}{BIGGEST}", "1", NO)
            self.answers(f"{sign}1/{LARGE} +- 0", "0", "0", NO)
            self.answers(f"{sign}1/{LARGE} +- 1/{LARGE}", "0", "0", YES)
            self.answers(f"{sign}1/{LARGE} +- 1/{LARGE}", f"{sign}2/{LARGE}", "0", YES)
            self.answers(f"{sign}1/{LARGE} +- 1/{LARGE}", f"{sign}1/{BIGGEST}", "0", YES)
            self.answers(f"{sign}1/{LARGE} +- 0", f"{sign}1/{BIGGEST}", "0", NO)
        self.answers(f"0 +- {LARGE}", "0", BIGGEST, YES)
        self.answers(f"0 +- {LARGE}", "1", BIGGEST, YES)
        self.answers(f"0 +- {LARGE}", "-2", BIGGEST, NO)

    def test_the_most_digits(self):
        nines = "9" * 1300
        self.answers(f"{nines} +- {nines}", "0", "0", YES)
        self.answers(f"-{nines} +- {nines}", "0", "0", YES)
        self.answers(f"0 +- {nines}", BIGGEST, BIGGEST, YES)
        self.answers(f"{nines} +- 1", BIGGEST, BIGGEST, NO)
        self.answers(f"{nines}/{nines} +- {nines}/3", "1", BIGGEST, YES)
        text = f"-{nines}.{nines} +- {'0' * 1299}5.{'0' * 190}"
        self.assertEqual(len(text), 4097)
        self.answers(text, "0", "0", [-1])
        self.answers(text[1:], "0", "0", NO)
        text = f"{'0' * 1299}7.{'0' * 1300} +- {'0' * 1299}3.{'0' * 190}"
        self.assertEqual(len(text), 4096)
        self.answers(text, "8", "2", YES)
        self.answers(text, "8", "3", NO)
        self.answers(text + "0", "8", "2", [-1])

    def test_next_to_the_limit_behind_it(self):
        self.answers(f"0 +- {BIGGEST}", BIGGEST, "0", YES)
        self.answers(f"0 +- {BIGGEST}", "-" + BIGGEST, "0", YES)
        self.answers(f"0 +- {BIGGEST}", BIGGEST, "1/" + BIGGEST, NO)
        self.answers(f"{BIGGEST} +- {BIGGEST}", BIGGEST, BIGGEST, YES)
        self.answers(f"{LIMIT - 1}/{LIMIT - 2} +- 1/{LIMIT - 3}", "1", "0", YES)
        self.answers(f"{LIMIT - 1}/{LIMIT - 3} +- 1/{LIMIT - 3}", "1", "0", NO)
        self.answers(f"{LIMIT - 1}/{LIMIT - 3} +- 2/{LIMIT - 3}", "1", "0", YES)


class Refusals(Case):

    # Every way in which each text is refused: of the first its size alone doesn't matter.
    FIRST = tuple((text, [-3, 0, place]) for text, place in FAULTY_BOUNDED) + tuple(
        (text, [-1]) for text in (LONG, "x" * 4097, "5 +- 1" + "0" * 4091, "1" * 5000))
    VALUES = tuple((text, [-3, 1, place]) for text, place in FAULTY) + tuple(
        (text, [-1]) for text in (LONG, "x" * 4097, "1/" + "0" * 4500)) + tuple(
        (text, TOO_LARGE) for text in LARGE_NUMBERS)
    BOUNDS = tuple((text, [-3, 2, place]) for text, place in FAULTY) + tuple(
        (text, [-1]) for text in (LONG, "x" * 4097, "1/" + "0" * 4500)) + tuple(
        (text, TOO_LARGE) for text in LARGE_NUMBERS)
    TOLD = ("5 +- 1", "-0.5 +- 0", f"{LARGE} +- 1/{LARGE}")
    TAKEN = ("5", "-2.50", "-0", BIGGEST)

    def test_the_first_text_alone(self):
        for (t, wanted), v in itertools.product(self.FIRST, self.TAKEN):
            self.answers(t, v, "1", wanted)

    def test_the_value_alone(self):
        for (v, wanted), t in itertools.product(self.VALUES, self.TOLD):
            self.answers(t, v, "1", wanted)

    def test_the_bound_alone(self):
        for (b, wanted), t, v in itertools.product(self.BOUNDS, self.TOLD, self.TAKEN):
            self.answers(t, v, b, wanted)

    def test_a_bound_below_nought(self):
        for b, t, v in itertools.product(BELOW, self.TOLD, self.TAKEN):
            self.answers(t, v, b, BELOW_NOUGHT)

    def test_a_bound_of_nought_with_a_sign_is_none(self):
        for b in ("-0", "-0.00", "-0/5", "-000"):
            self.answers("5 +- 1", "6", b, YES)
            self.answers("5 +- 1", "7", b, NO)

    def test_the_first_text_comes_ahead_of_all(self):
        for (t, wanted), (v, other) in itertools.product(self.FIRST, self.VALUES):
            self.answers(t, v, "1", wanted)
            self.answers(t, v, "12.", wanted)
        for (t, wanted), (b, other) in itertools.product(self.FIRST, self.BOUNDS):
            self.answers(t, "5", b, wanted)
        for (t, wanted), b in itertools.product(self.FIRST, BELOW):
            self.answers(t, "5", b, wanted)

    def test_the_value_comes_ahead_of_the_bound(self):
        for (v, wanted), (b, other) in itertools.product(self.VALUES, self.BOUNDS):
            self.answers("5 +- 1", v, b, wanted)
        for (v, wanted), b in itertools.product(self.VALUES, BELOW):
            self.answers("5 +- 1", v, b, wanted)

    def test_some_of_these_by_themselves(self):
        self.answers("5", LONG, "1", [-3, 0, 1])
        self.answers("5 +- 1", LARGE, "12.", TOO_LARGE)
        self.answers("5 +- 1", "12.", LONG, [-3, 1, 3])
        self.answers("5 +- 1", "5", "-" + LARGE, TOO_LARGE)
        self.answers("5 +- 1", "5", "-1/0", [-3, 2, 3])
        self.answers(f"{LARGE} +- {LARGE}", "5", "-1", BELOW_NOUGHT)
        self.answers(f"{LARGE} +- {LARGE}", "12.", "-1", [-3, 1, 3])
        self.answers("5 +- -1", "5", "-1", [-3, 0, 5])
        self.answers("5 +- 1", "", "", [-3, 1, 0])
        self.answers("5 +- 1", "5", "", [-3, 2, 0])
        self.answers("", "", "", [-3, 0, 0])

    def test_every_short_first_text(self):
        for length in range(4):
            for signs in itertools.product("-+ 05./", repeat=length):
                for start in ("", "1 +", "1 +- "):
                    text = start + "".join(signs)
                    place = bounded_fault(text.encode("ascii"))
                    if place is not None:
                        self.answers(text, "5", "1", [-3, 0, place])


if __name__ == "__main__":
    unittest.main()
