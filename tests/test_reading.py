"""Promise 5, and of promise 1 what is refused of a text: which texts are numbers, where others are at fault."""

import itertools
import unittest
from fractions import Fraction

from outward.figures import at, exact
from tests.helpers import LIMIT, fault, fraction_text, spell, told


class Reading(unittest.TestCase):

    def reads(self, text, wanted):
        self.assertEqual(exact(spell(text)), told(wanted), text[:40])

    def faulty(self, text, place):
        self.assertEqual(exact(spell(text)), [-3, 0, place], text[:40])
        self.assertEqual(at(0, 0, spell(text)), [-3, 0, place], text[:40])

    def too_large(self, text):
        self.assertEqual(exact(spell(text)), [-6], text[:40])
        self.assertEqual(at(0, 0, spell(text)), [-6], text[:40])

    def test_the_run(self):
        self.reads("-06/4", "-3/2")
        self.faulty("12.", 3)

    def test_whole_numbers(self):
        for text, wanted in (
            ("0", "0"), ("7", "7"), ("10", "10"), ("12345678901234567890", "12345678901234567890"),
            ("-1", "-1"), ("-120", "-120"), ("007", "7"), ("-007", "-7"), ("000", "0"),
        ):
            self.reads(text, wanted)

    def test_nought_has_no_sign(self):
        for text in ("-0", "-000", "-0.0", "-0.000", "-0/1", "-00/70", "0/9", "0.0"):
            self.reads(text, "0")

    def test_a_point(self):
        for text, wanted in (
            ("1.50", "3/2"), ("-1.50", "-3/2"), ("0.5", "1/2"), ("00.50", "1/2"), ("2.0", "2"), ("-2.000", "-2"),
            ("1.05", "21/20"), ("0.001", "1/1000"), ("-0.25", "-1/4"), ("10.00042", "500021/50000"),
        ):
            self.reads(text, wanted)

    def test_a_fraction(self):
        for text, wanted in (
            ("1/3", "1/3"), ("-1/3", "-1/3"), ("6/4", "3/2"), ("4/2", "2"), ("-4/2", "-2"), ("007/0021", "1/3"),
            ("12/1", "12"), ("5/0001", "5"), ("100/1000", "1/10"), ("7/10", "7/10"),
        ):
            self.reads(text, wanted)

    def test_an_exact_text_is_read_as_itself(self):
        for text in ("0", "-5", "3/2", "-25001/2500", "1/1" + "0" * 1200, str(LIMIT - 1) + "/7"):
            self.reads(text, fraction_text(Fraction(text)))
            self.assertEqual(exact(exact(spell(text))[1:]), exact(spell(text)))

    def test_something_has_to_follow(self):
        for text in ("", "-", "1.", "-1.", "12.", "1/", "-1/", "007/"):
            self.faulty(text, len(text))

    def test_a_byte_that_cannot_stand_there(self):
        signs = [chr(byte) for byte in range(256)]
        digits = "0123456789"
        for start, free in (
            ("", digits + "-"), ("-", digits), ("12", digits + "./"), ("1.", digits), ("1.5", digits),
            ("1/", digits), ("-1/2", digits),
        ):
            for sign in signs:
                if sign not in free:
                    with self.subTest(start=start, sign=sign):
                        self.faulty(start + sign, len(start))
                        self.faulty(start + sign + "1", len(start))

    def test_bytes_behind_a_number(self):
        for text, place in (
            ("12 ", 2), (" 12", 0), ("1 2", 1), ("1-2", 1), ("1.5.5", 3), ("1.5/2", 3), ("1/2.5", 3), ("1/2/3", 3),
            ("1e5", 1), ("1_0", 1), ("0x1", 1), ("--1", 1), ("+1", 0), (".5", 0), ("/2", 0), ("1/-2", 2), ("1\n", 1),
            ("10.0004 +- 0.0013", 7),
        ):
            self.faulty(text, place)

    def test_too_many_digits(self):
        for sign in ("", "-"):
            start = len(sign)
            for digit in "019":
                self.faulty(sign + digit * 1301, start + 1300)
                self.faulty(sign + digit * 1302 + "x", start + 1300)
                self.faulty(sign + "3." + digit * 1301, start + 2 + 1300)
                self.faulty(sign + "3/" + digit * 1301, start + 2 + 1300)
            self.faulty(sign + "1" * 1301 + ".", start + 1300)

    def test_as_many_digits_as_may_be(self):
        self.reads("0" * 1299 + "7", "7")
        self.reads("-" + "0" * 1299 + "7", "-7")
        self.reads("0" * 1300, "0")
        self.too_large("9" * 1300)
        self.reads("0." + "0" * 1300, "0")
        self.reads("1.5" + "0" * 1299, "3/2")
        self.too_large("0." + "0" * 1299 + "1")
        self.reads("1/" + "0" * 1299 + "2", "1/2")
        self.reads("-" + "0" * 1299 + "6/" + "0" * 1299 + "4", "-3/2")
        self.reads("9" * 1300 + "/" + "9" * 1300, "1")
        self.too_large("9" * 1300 + "." + "0" * 1300)
        self.faulty("0" * 1300 + ".", 1301)
        self.faulty("0" * 1300 + "x", 1300)
        self.faulty("1." + "0" * 1300 + "x", 1302)
        self.faulty("1/" + "1" * 1300 + "x", 1302)

    def test_a_denominator_of_noughts(self):
        for count in (1, 2, 3, 1299, 1300):
            self.faulty("1/" + "0" * count, 2)
            self.faulty("-12/" + "0" * count, 4)
            self.faulty("0/" + "0" * count, 2)
        for count in (1301, 1302, 2000):
            self.faulty("1/" + "0" * count, 1302)
            self.faulty("-12/" + "0" * count, 1304)
        self.faulty("1/" + "0" * 1300 + "5", 1302)
        self.faulty("1/0x", 2)
        self.faulty("1/05x", 4)

    def test_how_many_bytes(self):
        self.faulty("1" * 4096, 1300)
        self.faulty("x" * 4096, 0)
        for count in (4097, 4098, 4999, 5000):
            for text in ("1" * count, "x" * count, "0" * count, "1/" + "0" * (count - 2)):
                self.assertEqual(exact(spell(text)), [-1])
                self.assertEqual(at(0, 0, spell(text)), [-1])

    def test_numerators_next_to_the_limit(self):
        for sign in ("", "-"):
            for size in (LIMIT - 2, LIMIT - 1):
                self.reads(f"{sign}{size}", f"{sign}{size}")
                self.reads(f"{sign}{size}.000", f"{sign}{size}")
                self.reads(f"{sign}{3 * size}/3", f"{sign}{size}")
            for size in (LIMIT, LIMIT + 1, 10 * LIMIT):
                self.too_large(f"{sign}{size}")
                self.too_large(f"{sign}{size}.0")
                self.too_large(f"{sign}{3 * size}/3")
            self.reads(f"{sign}{LIMIT}/2", f"{sign}{LIMIT // 2}")
            self.reads(f"{sign}{LIMIT + 2}/4", f"{sign}{LIMIT // 2 + 1}/2")
            self.too_large(f"{sign}{LIMIT + 1}/2")

    def test_denominators_next_to_the_limit(self):
        for sign in ("", "-"):
            for size in (LIMIT - 2, LIMIT - 1):
                text = f"{sign}7/{size}"
                self.reads(text, fraction_text(Fraction(text)))
                self.reads(f"{sign}3/{3 * size}", f"{sign}1/{size}")
            for size in (LIMIT, LIMIT + 2):
                self.too_large(f"{sign}1/{size}")
                self.too_large(f"{sign}3/{3 * size}")
            self.reads(f"{sign}2/{LIMIT}", f"{sign}1/{LIMIT // 2}")
            self.too_large(f"{sign}{LIMIT}/{LIMIT + 1}")
            self.reads(f"{sign}{LIMIT - 1}/{LIMIT - 2}", f"{sign}{LIMIT - 1}/{LIMIT - 2}")
            self.reads(f"{sign}{LIMIT}/{LIMIT}", f"{sign}1")

    def test_every_short_text(self):
        for length in range(6):
            for data in itertools.product(b"-019./x", repeat=length):
                place = fault(bytes(data))
                if place is None:
                    wanted = told(fraction_text(Fraction(bytes(data).decode("ascii"))))
                else:
                    wanted = [-3, 0, place]
                self.assertEqual(exact(list(data)), wanted, bytes(data))


if __name__ == "__main__":
    unittest.main()
