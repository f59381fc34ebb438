"""Numbers: how far one goes, and whether it's right."""

from twigtext.letters import byte_at, in_mark, is_digit, run_end

MOST_BYTES = 255
MOST_PACKED_DIGITS = 31
MOST_EXPONENT_DIGITS = 5

ZERO = 48
POINT = 46
MINUS = 45
SMALL_E = 101
PACKED = 112

# The bytes of m x d s h i p.
MARKS = (109, 120, 100, 115, 104, 105, 112)


class Numeral:
    """A number's bytes, cut into its four parts; all but the digits may be empty."""

    def __init__(self, digits, fraction, exponent, mark):
        self.digits = digits
        self.fraction = fraction
        self.exponent = exponent
        self.mark = mark

    def size(self):
        return len(self.digits) + len(self.fraction) + len(self.exponent) + len(self.mark)


def numeral_at(text, place):
    """The number that begins with the digit there."""
    digits_end = run_end(text, place, is_digit)
    fraction_end = end_of_fraction(text, digits_end)
    exponent_end = end_of_exponent(text, fraction_end)
    mark_end = run_end(text, exponent_end, in_mark)
    return Numeral(
        text[place:digits_end],
        text[digits_end:fraction_end],
        text[fraction_end:exponent_end],
        text[exponent_end:mark_end],
    )


def end_of_fraction(text, place):
    if byte_at(text, place) == POINT and is_digit(byte_at(text, place + 1)):
        return run_end(text, place + 1, is_digit)
    return place


def end_of_exponent(text, place):
    if byte_at(text, place) != SMALL_E:
        return place
    digits = place + 1
    if byte_at(text, digits) == MINUS:
        digits += 1
    if is_digit(byte_at(text, digits)):
        return run_end(text, digits, is_digit)
    return place


def is_right(numeral):
    if numeral.size() > MOST_BYTES or not mark_is_right(numeral.mark):
        return False
    if numeral.mark == [PACKED]:
        return packed_is_right(numeral)
    if len(numeral.digits) > 1 and numeral.digits[0] == ZERO:
        return False
    if numeral.exponent == []:
        return True
    return numeral.mark != [] and exponent_is_right(numeral.exponent)


def mark_is_right(mark):
    return mark == [] or (len(mark) == 1 and mark[0] in MARKS)


def packed_is_right(numeral):
    alone = numeral.fraction == [] and numeral.exponent == []
    return alone and len(numeral.digits) <= MOST_PACKED_DIGITS


def exponent_is_right(exponent):
    negative = exponent[1] == MINUS
    digits = exponent[2:] if negative else exponent[1:]
    if digits[0] == ZERO:
        return len(digits) == 1 and not negative
    return len(digits) <= MOST_EXPONENT_DIGITS
