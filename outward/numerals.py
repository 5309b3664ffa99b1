"""Numbers: how they are read from texts, reckoned with, compared, rounded and written, and what is refused."""

MOST_BYTES = 4096
MOST_DIGITS = 1300
MOST_BITS = 4096

FIRST_PLACE = -60
LAST_PLACE = 60

# What two numbers can be made into.
SUM = 0
DIFFERENCE = 1
PRODUCT = 2
QUOTIENT = 3

# How two numbers can stand to each other.
LESS = 0
SAME = 1
GREATER = 2

# The ways of rounding.
NEAREST = 0
UP = 1
DOWN = 2
AWAY = 3
TOWARD = 4

# The sides that a root can be told from.
FROM_BELOW = 0
FROM_ABOVE = 1

# The bytes that stand in a number's text.
MINUS = 45
POINT = 46
STROKE = 47
NOUGHT = 48
NINE = 57

# What stands between a value and its bound.
PLUS_MINUS = " +- "


class Refused(Exception):
    """A call is refused; the answer is what the call gives back instead."""

    def __init__(self, answer):
        self.answer = answer


class OutOfRange(Refused):
    """A whole number is beyond what its call takes, or a text is too long."""

    def __init__(self):
        Refused.__init__(self, [-1])


class AtFault(Refused):
    """A text is not of the form it has to be: which text, and the place of the fault in it."""

    def __init__(self, which, place):
        Refused.__init__(self, [-3, which, place])


class TooLarge(Refused):
    """A number that was read doesn't fit."""

    def __init__(self):
        Refused.__init__(self, [-6])


class QuotientByNought(Refused):
    """A number was to be parted by 0."""

    def __init__(self):
        Refused.__init__(self, [-5])


class BelowNought(Refused):
    """A number is below 0 where none may be."""

    def __init__(self):
        Refused.__init__(self, [-2])


class NoPlace(Refused):
    """A bound is so great that no place is told for it."""

    def __init__(self):
        Refused.__init__(self, [-5])


class DoesNotFit(Refused):
    """A number that was made of others doesn't fit."""

    def __init__(self):
        Refused.__init__(self, [-6])


class Ratio:
    """A number in least terms: top (which bears the sign) by bottom (above 0)."""

    def __init__(self, top, bottom):
        self.top = top
        self.bottom = bottom


class Bounded:
    """A value with its bound: two numbers, of which the bound isn't below 0."""

    def __init__(self, value, bound):
        self.value = value
        self.bound = bound

    def lowest(self):
        """Give the least number that's held."""
        return difference_of(self.value, self.bound)

    def highest(self):
        """Give the greatest number that's held."""
        return sum_of(self.value, self.bound)


class Reader:
    """Reads one text from its beginning on; it stops at the first byte that can't stand where it is."""

    def __init__(self, text, which):
        self.text = text
        self.which = which
        self.place = 0

    def sees(self, byte):
        """Tell if this byte is the next one."""
        return self.place < len(self.text) and self.text[self.place] == byte

    def sees_digit(self):
        """Tell if the next byte is a digit."""
        return self.place < len(self.text) and NOUGHT <= self.text[self.place] <= NINE

    def digits(self):
        """Read digits as a whole number: as many as there are, which have to be 1 to MOST_DIGITS."""
        start = self.place
        value = 0
        while self.sees_digit() and self.place < start + MOST_DIGITS:
            value = value * 10 + self.text[self.place] - NOUGHT
            self.place += 1
        if self.place == start or self.sees_digit():
            raise AtFault(self.which, self.place)
        return value

    def number(self):
        """Read a number's text."""
        if not self.sees(MINUS):
            return self.unsigned()
        self.place += 1
        size = self.unsigned()
        return Ratio(-size.top, size.bottom)

    def unsigned(self):
        """Read a number's text that has no sign."""
        whole = self.digits()
        if self.sees(POINT):
            return self.behind_point(whole)
        if self.sees(STROKE):
            return self.behind_stroke(whole)
        return Ratio(whole, 1)

    def behind_point(self, whole):
        """Read a point and the digits behind it; whole is what stood ahead of it."""
        self.place += 1
        start = self.place
        part = self.digits()
        bottom = power_of_ten(self.place - start)
        return least_terms(whole * bottom + part, bottom)

    def behind_stroke(self, top):
        """Read a stroke and the denominator behind it; top is what stood ahead of it."""
        self.place += 1
        start = self.place
        bottom = self.digits()
        if bottom == 0:
            raise AtFault(self.which, start)
        return least_terms(top, bottom)

    def bounded(self):
        """Read a value with its bound."""
        value = self.number()
        for sign in PLUS_MINUS:
            if not self.sees(ord(sign)):
                raise AtFault(self.which, self.place)
            self.place += 1
        return Bounded(value, self.unsigned())

    def finish(self):
        """Refuse whatever still stands behind what was read."""
        if self.place < len(self.text):
            raise AtFault(self.which, self.place)


def check_op(op):
    """Refuse a whole number that tells nothing to be made of two numbers."""
    if op > QUOTIENT:
        raise OutOfRange()


def check_place(d):
    """Refuse a whole number that is no place."""
    if d < FIRST_PLACE or d > LAST_PLACE:
        raise OutOfRange()


def check_way(way):
    """Refuse a whole number that is no way of rounding."""
    if way > TOWARD:
        raise OutOfRange()


def check_above(above):
    """Refuse a whole number that tells no side of a root."""
    if above > FROM_ABOVE:
        raise OutOfRange()


def check_length(text):
    """Refuse a text that's too long."""
    if len(text) > MOST_BYTES:
        raise OutOfRange()


def check_not_below(number):
    """Refuse a number that's below 0."""
    if number.top < 0:
        raise BelowNought()


def check_fits(number):
    """Refuse a number that was made and doesn't fit."""
    if not fits(number):
        raise DoesNotFit()


def read_number(text, which):
    """Give the number that a call's text tells, or refuse the text."""
    check_length(text)
    reader = Reader(text, which)
    number = reader.number()
    reader.finish()
    if not fits(number):
        raise TooLarge()
    return number


def read_bounded(text, which):
    """Give the value with its bound that a call's text tells, whatever their size, or refuse the text."""
    check_length(text)
    reader = Reader(text, which)
    told = reader.bounded()
    reader.finish()
    return told


def fits(number):
    """Tell if numerator, whatever its sign, and denominator are below 2 to the power MOST_BITS."""
    return abs(number.top).bit_length() <= MOST_BITS and number.bottom.bit_length() <= MOST_BITS


def least_terms(top, bottom):
    """Give top by bottom (above 0) in least terms."""
    common = common_divisor(abs(top), bottom)
    return Ratio(top // common, bottom // common)


def common_divisor(a, b):
    """Give the greatest whole number that divides both; they aren't below 0, nor both 0."""
    while b > 0:
        rest = a % b
        a = b
        b = rest
    return a


def made_of(op, a, b):
    """Give what op makes of two numbers, or refuse it where there's no such number or it doesn't fit."""
    if op == SUM:
        number = sum_of(a, b)
    elif op == DIFFERENCE:
        number = difference_of(a, b)
    elif op == PRODUCT:
        number = product_of(a, b)
    else:
        number = product_of(a, inverse(b))
    check_fits(number)
    return number


def sum_of(a, b):
    """Give the sum of two numbers."""
    return least_terms(a.top * b.bottom + b.top * a.bottom, a.bottom * b.bottom)


def difference_of(a, b):
    """Give what's left of a without b."""
    return sum_of(a, Ratio(-b.top, b.bottom))


def product_of(a, b):
    """Give the product of two numbers."""
    return least_terms(a.top * b.top, a.bottom * b.bottom)


def inverse(number):
    """Give 1 by the number, or refuse it where the number is 0."""
    if number.top == 0:
        raise QuotientByNought()
    # The sign goes over to the new top: a bottom is above 0.
    if number.top < 0:
        return Ratio(-number.bottom, -number.top)
    return Ratio(number.bottom, number.top)


def compared(a, b):
    """Tell how a stands to b: LESS, SAME or GREATER."""
    left = a.top * b.bottom
    right = b.top * a.bottom
    if left < right:
        return LESS
    if left > right:
        return GREATER
    return SAME


def power_of_ten(count):
    """Give 1 with as many noughts behind it."""
    power = 1
    for step in range(count):
        power = power * 10
    return power


def rounded_units(number, d, way):
    """Give how many units of place d the number is, rounded the told way."""
    top = number.top * power_of_ten(max(d, 0))
    bottom = number.bottom * power_of_ten(max(-d, 0))
    below = top // bottom
    if goes_up(top - below * bottom, bottom, below, way):
        return below + 1
    return below


def goes_up(rest, bottom, below, way):
    """Tell if (below + rest / bottom) is rounded to below + 1; rest is from 0 to less than bottom."""
    if rest == 0 or way == DOWN:
        return False
    if way == UP:
        return True
    if way == NEAREST:
        return 2 * rest > bottom or (2 * rest == bottom and below % 2 == 1)
    # With a rest the number lies strictly between below and below + 1, so it has the sign of below.
    if way == AWAY:
        return below >= 0
    return below < 0


def number_of_units(units, d):
    """Give the number that's so many units of place d."""
    return least_terms(units * power_of_ten(max(-d, 0)), power_of_ten(max(d, 0)))


def exact_text(number):
    """Write the number itself: a whole number, or a fraction in least terms."""
    if number.bottom == 1:
        return str(number.top)
    return str(number.top) + "/" + str(number.bottom)


def units_text(units, d):
    """Write so many units of place d."""
    # The sign is that of the units: a number below 0 that was rounded to 0 has none.
    sign = "-" if units < 0 else ""
    figures = str(abs(units))
    if d > 0:
        figures = figures.zfill(d + 1)
        return sign + figures[:-d] + "." + figures[-d:]
    if units == 0:
        return figures
    return sign + figures + "0" * -d


def told_text(text):
    """Tell a text: how many bytes, and they."""
    return [len(text)] + [ord(sign) for sign in text]
