"""The calls: each takes whole numbers and texts (lists of bytes) and gives back one list of whole numbers."""

from outward.numerals import Refused, check_place, check_way, read_number
from outward.numerals import exact_text, rounded_units, told_text, units_text


def exact(t):
    """Answer the exact text of the number that t tells."""
    try:
        number = read_number(t, 0)
    except Refused as refused:
        return refused.answer
    return told_text(exact_text(number))


def at(d, way, t):
    """Answer the number that t tells, rounded the told way, as units of place d."""
    try:
        check_place(d)
        check_way(way)
        number = read_number(t, 0)
    except Refused as refused:
        return refused.answer
    return told_text(units_text(rounded_units(number, d, way), d))
