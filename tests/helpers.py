"""What the tests share: texts as lists of bytes, and a second reckoning of what is to be answered."""

import math
import re
from decimal import Decimal
from fractions import Fraction

LIMIT = 2 ** 4096
PLACES = range(-60, 61)
WAYS = range(5)
OPS = range(4)

# The longest beginning that could still become a number's text, and a denominator of noughts.
BEGINNING = re.compile(rb"-?([0-9]{1,1300}(\.[0-9]{0,1300}|/[0-9]{0,1300})?)?")
NOUGHTS = re.compile(rb"-?[0-9]{1,1300}/(0{1,1300})(?![0-9])")
WHOLE = re.compile(rb"-?[0-9]+([./][0-9]+)?")


def spell(text):
    """The bytes of a text."""
    return list(text.encode("latin-1"))


def told(text):
    """What is given back where this text is told."""
    return [len(text)] + spell(text)


def fault(data):
    """The place at which a text of at most 4,096 bytes is at fault, or None."""
    noughts = NOUGHTS.match(data)
    if noughts:
        return noughts.start(1)
    if BEGINNING.fullmatch(data) and WHOLE.fullmatch(data):
        return None
    return BEGINNING.match(data).end()


def bounded_fault(data):
    """The place at which a value with its bound of at most 4,096 bytes is at fault, or None."""
    start = data.find(b" ") if b" " in data else len(data)
    place = fault(data[:start])
    if place is not None:
        return place
    for step, byte in enumerate(b" +- "):
        if data[start + step:start + step + 1] != bytes([byte]):
            return start + step
    bound = data[start + 4:]
    place = 0 if bound.startswith(b"-") else fault(bound)
    return None if place is None else start + 4 + place


def fraction_text(number):
    """The exact text of a Fraction."""
    text = str(number.numerator)
    return text if number.denominator == 1 else f"{text}/{number.denominator}"


def does_not_fit(number):
    """If a Fraction is beyond what's written as a text."""
    return max(abs(number.numerator), number.denominator) >= LIMIT


def made(op, first, second):
    """What is given back where op makes something of two Fractions."""
    if op == 3 and second == 0:
        return [-5]
    number = (first.__add__, first.__sub__, first.__mul__, first.__truediv__)[op](second)
    if does_not_fit(number):
        return [-6]
    return told(fraction_text(number))


def rounded(number, way):
    """A Fraction rounded to a whole number."""
    if way == 0:
        return round(number)
    if way == 1:
        return math.ceil(number)
    if way == 2:
        return math.floor(number)
    if way == 3:
        return math.ceil(number) if number > 0 else math.floor(number)
    return math.trunc(number)


def place_text(number, d, way):
    """A Fraction rounded at a place, as units of it."""
    units = rounded(number * Fraction(10) ** d, way)
    if d <= 0:
        return str(units * 10 ** -d)
    return format(Decimal((units < 0, tuple(map(int, str(abs(units)))), -d)), "f")


def bound_units(value, bound, d):
    """How many units of a place hold a bound and what rounding the value there takes away or adds; all Fractions."""
    unit = Fraction(10) ** -d
    return math.ceil((bound + abs(round(value / unit) * unit - value)) / unit)


def shown_place(value, bound):
    """The place at which a value with its bound is shown, or None; both are Fractions."""
    units = {d: bound_units(value, bound, d) for d in PLACES}
    if 0 in units.values():
        return max(0, min(d for d in PLACES if units[d] == 0))
    return max((d for d in PLACES if units[d] <= 99), default=None)


def shown_pair(value, bound):
    """What is given back where a value with its bound is shown; both are Fractions, the bound not below 0."""
    d = shown_place(value, bound)
    if d is None:
        return [-5]
    text = place_text(value, d, 0)
    if does_not_fit(Fraction(text)):
        return [-6]
    return told(text + " +- " + place_text(bound_units(value, bound, d) * Fraction(10) ** -d, d, 0))


def read_pair(answer):
    """The value and the bound, as Fractions, of an answer that tells a value with its bound."""
    value, bound = bytes(answer[1:]).decode("ascii").split(" +- ")
    return Fraction(value), Fraction(bound)


def root_text(number, d, above):
    """The root of a Fraction not below 0, from below (0) or from above (1), as units of a place."""
    squares = number * Fraction(100) ** d
    if above == 0:
        units = math.isqrt(math.floor(squares))
    else:
        # The least whole number whose square isn't below is one more than the greatest whose square is.
        units = 1 + math.isqrt(math.ceil(squares) - 1) if squares > 0 else 0
    return place_text(units * Fraction(10) ** -d, d, 0)


def held(value, bound, seen, around):
    """What's given back for a value with its bound that is to hold what's seen and all around it; all Fractions."""
    return [int(abs(value - seen) + around <= bound)]
