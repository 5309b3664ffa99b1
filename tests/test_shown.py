"""Promise 3, outward, and of promise 5 that a text shown again is the same; and of promise 1 what shown refuses."""

import itertools
import random
import unittest
from fractions import Fraction

from outward.figures import exact, shown
from tests.helpers import LIMIT, PLACES, bound_units, fraction_text, place_text, read_pair, shown_pair, spell, told

BELOW_NOUGHT = [-2]
NO_PLACE = [-5]
NO_FIT = [-6]

NOUGHTS = ("0", "-0", "000", "0.00", "-0.0", "0/7", "-0/7", "0." + "0" * 1300)

BIGGEST = str(LIMIT - 1)
LARGE = str(LIMIT)
LONG = "1" * 4097

# The greatest bound that has a place.
GREATEST_BOUND = 99 * 10 ** 60


def unit(d):
    """The unit of a place."""
    return Fraction(10) ** -d


class Case(unittest.TestCase):

    def answers(self, v, b, wanted):
        self.assertEqual(shown(spell(v), spell(b)), wanted, (v[:40], b[:40]))

    def gives(self, v, b, wanted):
        self.answers(v, b, told(wanted))

    def gives_fractions(self, value, bound, wanted):
        self.gives(fraction_text(Fraction(value)), fraction_text(Fraction(bound)), wanted)


class Shown(Case):

    def test_the_run(self):
        self.gives("10.00042", "0.00127", "10.0004 +- 0.0013")
        self.gives("1234567", "96.2", "1234567 +- 97")
        self.gives("1234567", "99.2", "1234570 +- 110")
        self.answers("5", "-1", BELOW_NOUGHT)

    def test_every_form_of_both_texts(self):
        for v in ("12.5", "012.50", "25/2", "0050/4"):
            for b in ("0.25", "00.2500", "1/4", "02/08"):
                self.gives(v, b, "12.50 +- 0.25")
                self.gives("-" + v, b, "-12.50 +- 0.25")
        self.gives("7", "3", "7.0 +- 3.0")
        self.gives("2/3", "1/3", "0.67 +- 0.34")
        self.gives("-2/3", "1/3", "-0.67 +- 0.34")

    def test_a_bound_of_99_units_and_one_just_above(self):
        for d in PLACES:
            noughts = place_text(Fraction(0), d, 0)
            bound = place_text(99 * unit(d), d, 0)
            self.gives("0", bound, f"{noughts} +- {bound}")
            if d > -60:
                # One place ahead the same bound has ten units: 9.9 and a little.
                above = 99 * unit(d) + Fraction(1, 10 ** 80)
                wanted = place_text(10 * unit(d - 1), d - 1, 0)
                self.gives_fractions(0, above, f"{place_text(Fraction(0), d - 1, 0)} +- {wanted}")

    def test_the_bound_is_rounded_up(self):
        self.gives("0", "12.0000001", "0 +- 13")
        self.gives("0", "97.5", "0 +- 98")
        self.gives("0", "98.0000001", "0 +- 99")
        self.gives("0", "9.81", "0.0 +- 9.9")
        self.gives("0", "9.91", "0 +- 10")
        self.gives("0", "0.00127", "0.0000 +- 0.0013")
        self.gives("0", "1/3", "0.00 +- 0.34")
        self.gives("0", "1", "0.0 +- 1.0")
        self.gives("0", "100", "0 +- 100")
        self.gives("0", "101", "0 +- 110")
        self.gives("0", "991", "0 +- 1000")

    def test_what_rounding_the_value_takes_away_is_in_the_bound(self):
        self.gives("0.3", "98.7", "0 +- 99")
        self.gives("0.4", "98.7", "0 +- 100")
        self.gives("-0.3", "98.7", "0 +- 99")
        self.gives("-0.4", "98.7", "0 +- 100")
        self.gives("4", "97", "4 +- 97")
        self.gives("4.25", "97", "4 +- 98")
        self.gives("0.5", "98.5", "0 +- 99")
        self.gives("0.5", "98.5001", "0 +- 100")
        self.gives("1/3", "9.86", "0.3 +- 9.9")
        self.gives("1/3", "9.87", "0 +- 11")

    def test_what_rounding_the_value_adds_is_in_the_bound(self):
        self.gives("0.7", "98.7", "1 +- 99")
        self.gives("0.6", "98.7", "0 +- 100")
        self.gives("-0.7", "98.7", "-1 +- 99")
        self.gives("-0.6", "98.7", "0 +- 100")
        self.gives("6.75", "97", "7 +- 98")
        self.gives("2/3", "9.86", "0.7 +- 9.9")
        self.gives("2/3", "9.87", "1 +- 11")
        self.gives("1.5", "98.5", "2 +- 99")
        self.gives("1.5", "98.5001", "0 +- 110")

    def test_a_bound_that_ends_on_99_2(self):
        self.gives("1234567", "99.2", "1234570 +- 110")
        self.gives("-1234567", "99.2", "-1234570 +- 110")
        self.gives("0", "99.2", "0 +- 100")
        self.gives("1.234567", "0.0992", "1.23 +- 0.11")
        self.gives("1234567", "9.92", "1234567 +- 10")
        self.gives("1234567", "992", "1234600 +- 1100")
        self.gives("7", "0.0000992", "7.00000 +- 0.00010")

    def test_a_bound_below_one_unit_of_every_place(self):
        one = "0." + "0" * 59 + "1"
        for bound in ("1/" + "1" + "0" * 61, "1/" + "9" * 100, "0." + "0" * 600 + "1", "1/" + BIGGEST):
            self.gives("5", bound, "5." + "0" * 60 + " +- " + one)
            self.gives("-5", bound, "-5." + "0" * 60 + " +- " + one)
            self.gives("0", bound, "0." + "0" * 60 + " +- " + one)
            self.gives("1/3", bound, "0." + "3" * 60 + " +- " + one)

    def test_a_value_that_is_rounded_to_nought_has_no_sign(self):
        self.gives("-0.04", "9", "0.0 +- 9.1")
        self.gives("0.04", "9", "0.0 +- 9.1")
        self.gives("-0.4", "50", "0 +- 51")
        self.gives("-49", "5000", "0 +- 5100")
        self.gives("-0", "5", "0.0 +- 5.0")
        self.gives("-1/" + "9" * 100, "0", "0." + "0" * 60 + " +- 0." + "0" * 59 + "1")

    def test_ties_go_to_even_units(self):
        for v, wanted in (
            ("0.5", "0"), ("1.5", "2"), ("2.5", "2"), ("3.5", "4"), ("9.5", "10"), ("10.5", "10"),
            ("-0.5", "0"), ("-1.5", "-2"), ("-2.5", "-2"), ("-3.5", "-4"), ("-9.5", "-10"), ("-10.5", "-10"),
        ):
            self.gives(v, "50", wanted + " +- 51")
        self.gives("0.125", "0.5", "0.12 +- 0.51")
        self.gives("-0.125", "0.5", "-0.12 +- 0.51")
        self.gives("0.375", "0.5", "0.38 +- 0.51")
        self.gives("-0.375", "0.5", "-0.38 +- 0.51")
        self.gives("250", "5000", "200 +- 5100")
        self.gives("-350", "5000", "-400 +- 5100")
        self.gives("2.5000001", "50", "3 +- 51")
        self.gives("-2.4999999", "50", "-2 +- 51")


class BoundsOfNought(Case):

    def test_at_the_place_where_the_digits_end(self):
        for d in PLACES:
            for units in (1, -1, 7, -305, 10 ** 30 + 1):
                value = units * unit(d)
                told_at = max(d, 0)
                wanted = place_text(value, told_at, 0) + " +- " + place_text(Fraction(0), told_at, 0)
                self.gives_fractions(value, 0, wanted)

    def test_some_of_these_by_themselves(self):
        self.gives("1.50", "0", "1.5 +- 0.0")
        self.gives("-1.50", "0.00", "-1.5 +- 0.0")
        self.gives("1200", "0", "1200 +- 0")
        self.gives("1", "0/9", "1 +- 0")
        self.gives("1/8", "0", "0.125 +- 0.000")
        self.gives("3/6", "-0", "0.5 +- 0.0")
        self.gives("9" + "0" * 100, "0", "9" + "0" * 100 + " +- 0")

    def test_a_value_of_nought(self):
        for v, b in itertools.product(NOUGHTS, repeat=2):
            self.gives(v, b, "0 +- 0")

    def test_a_value_that_ends_nowhere(self):
        one = "0." + "0" * 59 + "1"
        for nought in NOUGHTS:
            self.gives("1/3", nought, f"0.{'3' * 60} +- {one}")
            self.gives("-1/3", nought, f"-0.{'3' * 60} +- {one}")
            self.gives("2/3", nought, f"0.{'6' * 59}7 +- {one}")
            self.gives("100/7", nought, f"14.{'285714' * 10} +- {one}")

    def test_a_value_that_ends_only_behind_the_last_place(self):
        one = "0." + "0" * 59 + "1"
        self.gives("0." + "0" * 60 + "1", "0", f"0.{'0' * 60} +- {one}")
        self.gives("-0." + "0" * 60 + "1", "0", f"0.{'0' * 60} +- {one}")
        self.gives("0." + "0" * 60 + "5", "0", f"0.{'0' * 60} +- {one}")
        self.gives("0." + "0" * 60 + "6", "0", f"{one} +- {one}")
        self.gives("0." + "0" * 59 + "15", "0", f"0.{'0' * 59}2 +- {one}")
        self.gives("-7." + "0" * 59 + "25", "0", f"-7.{'0' * 59}2 +- {one}")
        self.gives("7." + "0" * 59 + "1", "0", f"7.{'0' * 59}1 +- 0.{'0' * 60}")


class OutermostPlaces(Case):

    def test_the_last_place(self):
        for units in (1, 9, 10, 98, 99):
            bound = f"0.{'0' * 58}{units:02}"
            self.gives("0", bound, f"0.{'0' * 60} +- {bound}")
            self.gives("-3", bound, f"-3.{'0' * 60} +- {bound}")
        self.gives("0", f"0.{'0' * 57}100", f"0.{'0' * 59} +- 0.{'0' * 57}10")
        self.gives("0", f"0.{'0' * 58}985", f"0.{'0' * 60} +- 0.{'0' * 58}99")
        self.gives("0", f"0.{'0' * 58}991", f"0.{'0' * 59} +- 0.{'0' * 57}10")

    def test_the_first_place(self):
        noughts = "0" * 60
        self.gives("0", "99" + noughts, "0 +- 99" + noughts)
        self.gives("0", "98" + "0" * 59 + "1", "0 +- 99" + noughts)
        self.gives("7" + noughts, "99" + noughts, f"7{noughts} +- 99{noughts}")
        self.gives("-7" + noughts, "99" + noughts, f"-7{noughts} +- 99{noughts}")
        self.gives("25" + "0" * 59, "98" + noughts, f"2{noughts} +- 99{noughts}")
        self.gives("-35" + "0" * 59, "98" + noughts, f"-4{noughts} +- 99{noughts}")
        self.gives("0", "991" + "0" * 58, "0 +- 10" + noughts)
        self.gives("0", "990" + "0" * 58, "0 +- 99" + "0" * 59)
        self.gives("-1", "10" + noughts, f"0 +- 11{noughts}")

    def test_a_bound_that_has_no_place(self):
        edge = GREATEST_BOUND
        self.answers("0", str(edge + 1), NO_PLACE)
        self.answers("0", f"{edge}.0000001", NO_PLACE)
        self.answers("0", f"{3 * edge + 1}/3", NO_PLACE)
        self.answers("0", BIGGEST, NO_PLACE)
        self.answers(BIGGEST, BIGGEST, NO_PLACE)

    def test_rounding_the_value_may_leave_no_place(self):
        edge = GREATEST_BOUND
        wanted = f"0 +- {edge}"
        for sign in ("", "-"):
            self.gives(sign + "1", str(edge - 1), wanted)
            self.answers(sign + "1", str(edge), NO_PLACE)
            self.answers(sign + "2", str(edge - 1), NO_PLACE)
            self.gives(sign + "1/3", f"{3 * edge - 1}/3", wanted)
            self.answers(sign + "2/3", f"{3 * edge - 1}/3", NO_PLACE)
            self.gives(sign + "5" + "0" * 59, str(edge - 5 * 10 ** 59), wanted)
            self.answers(sign + "5" + "0" * 59, str(edge - 5 * 10 ** 59 + 1), NO_PLACE)
        self.gives("9" * 60, str(edge - 1), f"1{'0' * 60} +- {edge}")
        self.answers("9" * 60, str(edge), NO_PLACE)


class Outward(Case):

    @classmethod
    def setUpClass(cls):
        cls.answered = []
        for value, bound in cases():
            answer = shown(spell(fraction_text(value)), spell(fraction_text(bound)))
            cls.answered.append((value, bound, answer))

    def taken(self):
        """Each case with what's answered, where that is no refusal."""
        return [case for case in self.answered if case[2][0] >= 0]

    def test_as_told_place_by_place(self):
        for value, bound, answer in self.answered:
            self.assertEqual(answer, shown_pair(value, bound), (value, bound))

    def test_all_that_value_and_bound_hold_is_held(self):
        for value, bound, answer in self.taken():
            seen, around = read_pair(answer)
            self.assertLessEqual(seen - around, value - bound)
            self.assertGreaterEqual(seen + around, value + bound)

    def test_two_figures_at_most_and_no_place_behind_would_do(self):
        for value, bound, answer in self.taken():
            around = bytes(answer[1:]).decode("ascii").split(" +- ")[1]
            figures = around.replace(".", "").lstrip("0")
            if "." in around:
                d = len(around.partition(".")[2])
                self.assertLessEqual(len(figures), 2)
            else:
                d = 2 - len(around)
                self.assertLessEqual(len(figures.rstrip("0")), 2)
            if figures:
                for behind in range(d + 1, 61):
                    self.assertGreater(bound_units(value, bound, behind), 99)

    def test_shown_again_it_is_the_same_text(self):
        for value, bound, answer in self.taken():
            v, b = bytes(answer[1:]).decode("ascii").split(" +- ")
            self.assertEqual(shown(spell(v), spell(b)), answer)
            self.assertEqual(shown(exact(spell(v))[1:], exact(spell(b))[1:]), answer)

    def test_every_small_fraction(self):
        for top, bottom, other, under in itertools.product(range(-6, 7), (1, 3, 8), range(7), (1, 7)):
            wanted = shown_pair(Fraction(top, bottom), Fraction(other, under))
            self.answers(f"{top}/{bottom}", f"{other}/{under}", wanted)


def cases():
    """Values and bounds, as Fractions, many of them next to an edge."""
    values = ("0", "1/3", "-2/3", "10.00042", "-1234567", "0.5", "-2.5", "99.96", "-0.00004", "5e40", "3.5e-70")
    bounds = ("0", "0.00127", "96.2", "99.2", "98.7", "99", "9.9", "9.91", "1/3", "1e-60", "1e-61", "45e59", "985e59")
    for value, bound in itertools.product(values, bounds):
        yield Fraction(value), Fraction(bound)
    # Always the same ones: the seed is written.
    chance = random.Random(20)
    for step in range(200):
        value = Fraction(chance.randint(-10 ** 9, 10 ** 9), chance.randint(1, 10 ** chance.randint(0, 9)))
        bound = Fraction(chance.randint(0, 10 ** 4), chance.randint(1, 10 ** chance.randint(0, 9)))
        yield value * unit(chance.randint(-30, 30)), bound * unit(chance.randint(-30, 40))
    for step in range(200):
        d = chance.randint(-60, 60)
        hundredths = chance.randint(9800, 10000)
        yield Fraction(chance.randint(-2000, 2000), 100) * unit(d), Fraction(hundredths, 100) * unit(d)


class NextToTheLimit(Case):

    def test_a_value_that_is_shown_as_it_is(self):
        for sign in ("", "-"):
            self.gives(sign + BIGGEST, "0", f"{sign}{BIGGEST} +- 0")
            self.gives(sign + BIGGEST, "51", f"{sign}{BIGGEST} +- 51")
            self.gives(f"{sign}{BIGGEST}/2", "0", f"{sign}{LIMIT // 2 - 1}.5 +- 0.0")
            self.gives(f"{sign}{BIGGEST}/2", "5", f"{sign}{LIMIT // 2 - 1}.5 +- 5.0")

    def test_units_beyond_the_limit_that_are_not_in_least_terms(self):
        for sign in ("", "-"):
            self.gives(sign + BIGGEST, "0.5", f"{sign}{BIGGEST}.00 +- 0.50")
            self.gives(sign + BIGGEST, "1/" + BIGGEST, f"{sign}{BIGGEST}.{'0' * 60} +- 0.{'0' * 59}1")
            self.gives(f"{sign}{BIGGEST}/2", "1/7", f"{sign}{LIMIT // 2 - 1}.50 +- 0.15")

    def test_a_value_that_is_rounded_past_the_limit(self):
        tens = LIMIT // 10 * 10
        for sign in ("", "-"):
            self.gives(f"{sign}{tens + 4}", "510", f"{sign}{tens} +- 520")
            self.answers(f"{sign}{tens + 5}", "510", NO_FIT)
        seen = []
        for d in range(-60, 0):
            bound = 90 * unit(d)
            seen.append(shown_pair(Fraction(LIMIT - 1), bound))
            self.answers(BIGGEST, fraction_text(bound), seen[-1])
        self.assertIn(NO_FIT, seen)
        self.assertLess(seen.count(NO_FIT), len(seen))

    def test_a_numerator_that_is_just_the_limit(self):
        fifth = LIMIT // 5
        for sign in ("", "-"):
            # Rounded it is a fifth of 2^4096, whose numerator is the first that doesn't fit.
            self.answers(f"{sign}{4 * fifth + 1}/4", "5", NO_FIT)
            self.gives(f"{sign}{4 * fifth - 1}/4", "5", f"{sign}{fifth - 1}.8 +- 5.1")

    def test_hundredths_next_to_the_limit(self):
        whole = (LIMIT - 34) // 100
        for sign in ("", "-"):
            self.gives(f"{sign}{3 * whole + 1}/3", "0.5", f"{sign}{whole}.33 +- 0.51")
            self.answers(f"{sign}{3 * whole + 4}/3", "0.5", NO_FIT)
            self.gives(f"{sign}{4 * whole + 5}/4", "0.5", f"{sign}{whole + 1}.25 +- 0.50")

    def test_a_value_that_ends_nowhere(self):
        for sign in ("", "-"):
            self.answers(f"{sign}{BIGGEST}/7", "0", NO_FIT)
            self.answers(f"{sign}{BIGGEST}/7", "1/3", NO_FIT)
            self.gives(f"{sign}{BIGGEST}/7", "50", f"{sign}{round(Fraction(LIMIT - 1, 7))} +- 51")

    def test_at_several_places(self):
        for bound in ("50", "5", "0.5", "0.05", "1/3", "0"):
            for shift in (Fraction(0), Fraction(1, 3), Fraction(1, 2), Fraction(-1, 7)):
                for value in (LIMIT // 16 + shift, -(LIMIT // 160) + shift):
                    self.answers(fraction_text(value), bound, shown_pair(value, Fraction(bound)))


class Refusals(Case):

    BELOW = ("-1", "-0.001", "-1/3", "-" + BIGGEST, "-1/" + BIGGEST, f"-{GREATEST_BOUND + 1}")

    def test_a_bound_below_nought(self):
        for v in ("5", "-5", "0", "-0", "1/3", BIGGEST):
            for b in self.BELOW:
                self.answers(v, b, BELOW_NOUGHT)

    def test_a_bound_of_nought_with_a_sign_is_none(self):
        for b in ("-0", "-0.00", "-0/5", "-000"):
            self.gives("5", b, "5 +- 0")
            self.gives("-1/4", b, "-0.25 +- 0.00")

    def test_texts_come_ahead_of_a_bound_below_nought(self):
        for v, wanted in ((LONG, [-1]), ("12.", [-3, 0, 3]), ("", [-3, 0, 0]), (LARGE, NO_FIT), ("1/" + LARGE, NO_FIT)):
            for b in self.BELOW + (str(GREATEST_BOUND + 1), "-", "-" + LARGE, LONG, "1/0"):
                self.answers(v, b, wanted)
        self.answers("5", "-" + LARGE, NO_FIT)
        self.answers("5", "-1/" + LARGE, NO_FIT)
        self.answers("5", "-1/0", [-3, 1, 3])
        self.answers("5", "-", [-3, 1, 1])
        self.answers("5", "-" + "1" * 4096, [-1])
        self.answers("5", "-" + "1" * 4095, [-3, 1, 1301])

    def test_some_of_these_by_themselves(self):
        self.answers(LARGE, "12.", NO_FIT)
        self.answers("12.", LONG, [-3, 0, 3])
        self.answers("5 +- 1", "1", [-3, 0, 1])
        self.answers("5", "5 +- 1", [-3, 1, 1])
        self.answers("5", "+1", [-3, 1, 0])

    def test_no_place_comes_ahead_of_what_does_not_fit(self):
        for sign in ("", "-"):
            self.answers(sign + BIGGEST, str(GREATEST_BOUND + 1), NO_PLACE)
            self.answers(sign + BIGGEST + "/7", str(GREATEST_BOUND), NO_PLACE)

    def test_a_bound_below_nought_comes_ahead_of_what_does_not_fit(self):
        self.answers(BIGGEST + "/7", "-1/3", BELOW_NOUGHT)
        self.answers(BIGGEST, "-510", BELOW_NOUGHT)


if __name__ == "__main__":
    unittest.main()
