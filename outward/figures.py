"""The calls: each takes whole numbers and texts (lists of bytes) and gives back one list of whole numbers."""

from outward.numerals import Refused, check_op, check_place, check_way, read_number
from outward.numerals import compared, exact_text, made_of, rounded_units, told_text, units_text


def exact(t):
    """Answer the exact text of the number that t tells."""
    try:
        number = read_number(t, 0)
    except Refused as refused:
        return refused.answer
    return told_text(exact_text(number))


def at(d, way, t):
    """Answer the number that t tells, rounded the told way, as units of place d."""
    try:
        check_place(d)
        check_way(way)
        number = read_number(t, 0)
    except Refused as refused:
        return refused.answer
    return told_text(units_text(rounded_units(number, d, way), d))


def two(op, a, b):
    """Answer the exact text of what op makes of the numbers that a and b tell."""
    try:
        check_op(op)
        first = read_number(a, 0)
        second = read_number(b, 1)
        number = made_of(op, first, second)
    except Refused as refused:
        return refused.answer
    return told_text(exact_text(number))


def order(a, b):
    """Answer how the number that a tells stands to b's: 0 less, 1 the same, 2 greater."""
    try:
        first = read_number(a, 0)
        second = read_number(b, 1)
    except Refused as refused:
        return refused.answer
    return [compared(first, second)]
