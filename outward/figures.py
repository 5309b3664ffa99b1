"""The calls: each takes whole numbers and texts (lists of bytes) and gives back one list of whole numbers.

Behind them stands how a value with its bound is shown, and how roots are taken.
"""

from outward.numerals import FIRST_PLACE, FROM_ABOVE, GREATER, LAST_PLACE, NEAREST, PLUS_MINUS
from outward.numerals import Bounded, NoPlace, Refused
from outward.numerals import check_above, check_fits, check_not_below, check_op, check_place, check_way
from outward.numerals import read_bounded, read_number
from outward.numerals import compared, exact_text, made_of, number_of_units, power_of_ten, rounded_units
from outward.numerals import told_text, units_text

# More units of a bound would have three figures.
MOST_UNITS = 99


def exact(t):
    """Answer the exact text of the number that t tells."""
    try:
        number = read_number(t, 0)
    except Refused as refused:
        return refused.answer
    return told_text(exact_text(number))


def at(d, way, t):
    """Answer the number that t tells, rounded the told way, as units of place d."""
    try:
        check_place(d)
        check_way(way)
        number = read_number(t, 0)
    except Refused as refused:
        return refused.answer
    return told_text(units_text(rounded_units(number, d, way), d))


def two(op, a, b):
    """Answer the exact text of what op makes of the numbers that a and b tell."""
    try:
        check_op(op)
        first = read_number(a, 0)
        second = read_number(b, 1)
        number = made_of(op, first, second)
    except Refused as refused:
        return refused.answer
    return told_text(exact_text(number))


def order(a, b):
    """Answer how the number that a tells stands to b's: 0 less, 1 the same, 2 greater."""
    try:
        first = read_number(a, 0)
        second = read_number(b, 1)
    except Refused as refused:
        return refused.answer
    return [compared(first, second)]


def shown(v, b):
    """Answer the number that v tells, with the bound that b tells, at the place that's told for them."""
    try:
        text = shown_text(read_given(v, b, 0))
    except Refused as refused:
        return refused.answer
    return told_text(text)


def split(t):
    """Answer the exact texts of the value and of the bound that t tells."""
    try:
        told = read_bounded(t, 0)
        check_fits(told.value)
        check_fits(told.bound)
    except Refused as refused:
        return refused.answer
    return told_text(exact_text(told.value) + " " + exact_text(told.bound))


def root(d, above, t):
    """Answer the root of the number that t tells, from below or from above, as units of place d."""
    try:
        check_place(d)
        check_above(above)
        number = read_number(t, 0)
        check_not_below(number)
    except Refused as refused:
        return refused.answer
    return told_text(units_text(root_units(number, d, above), d))


def holds(t, v, b):
    """Answer if what t tells holds all that the value of v with the bound of b holds: 1 it does, 0 it doesn't."""
    try:
        told = read_bounded(t, 0)
        given = read_given(v, b, 1)
    except Refused as refused:
        return refused.answer
    return [1 if lies_within(given, told) else 0]


def read_given(v, b, which):
    """Give the value that v tells with the bound that b tells, or refuse them; v is text which of its call."""
    value = read_number(v, which)
    bound = read_number(b, which + 1)
    check_not_below(bound)
    return Bounded(value, bound)


def shown_text(given):
    """Write a value with its bound at the place that's told for them, or refuse them."""
    d = told_place(given)
    units = rounded_units(given.value, d, NEAREST)
    # The bound isn't looked at: so few units of a place always fit.
    check_fits(number_of_units(units, d))
    return units_text(units, d) + PLUS_MINUS + units_text(bound_units(given, d), d)


def told_place(given):
    """Give the place at which a value with its bound is shown, or refuse them."""
    for d in range(FIRST_PLACE, LAST_PLACE + 1):
        if bound_units(given, d) == 0:
            return max(d, 0)
    for d in range(LAST_PLACE, FIRST_PLACE - 1, -1):
        if bound_units(given, d) <= MOST_UNITS:
            return d
    raise NoPlace()


def bound_units(given, d):
    """Give the fewest units of place d that hold the bound and what rounding the value there takes away or adds."""
    value = given.value
    bound = given.bound
    larger = power_of_ten(max(d, 0))
    smaller = power_of_ten(max(-d, 0))
    # So many parts make a unit that value, bound and rounded value are whole numbers of them.
    parts = value.bottom * bound.bottom * smaller
    lost = abs(rounded_units(value, d, NEAREST) * parts - value.top * bound.bottom * larger)
    held = bound.top * value.bottom * larger + lost
    return -(-held // parts)


def root_units(number, d, above):
    """Give how many units of place d the root of a number not below 0 is, from below or from above."""
    # Top by bottom is the number itself in squares of units: of a rounded one the root may be another.
    top = number.top * power_of_ten(2 * max(d, 0))
    bottom = number.bottom * power_of_ten(2 * max(-d, 0))
    units = whole_root(top // bottom)
    if above == FROM_ABOVE and units * units * bottom < top:
        return units + 1
    return units


def whole_root(number):
    """Give the greatest whole number whose square isn't above a whole number not below 0."""
    # Each step leads from above the root to nearer above it, or to the very one that's asked for.
    guess = 1 << ((number.bit_length() + 1) // 2)
    while guess * guess > number:
        guess = (guess + number // guess) // 2
    return guess


def lies_within(inner, outer):
    """Tell if all that one value with its bound holds is held by another."""
    if compared(outer.lowest(), inner.lowest()) == GREATER:
        return False
    return compared(inner.highest(), outer.highest()) != GREATER
