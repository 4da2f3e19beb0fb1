"""Digits of fractions, and fractions of digits."""

from math import gcd

from wheelnines.errors import BadDigits, BadNumber, Nothing, TooGreat
from wheelnines.numbers import MOST_DENOMINATOR, head_size, is_within, need_base, need_fraction, period
from wheelnines.numbers import power, power_rest

MOST_DIGITS = 400
LAST_PLACE = 10 ** 30


def are_digits(base, value, least):
    """Whether value is a tuple of digits of the base, at least so many and at most 400."""
    if not isinstance(value, tuple) or not least <= len(value) <= MOST_DIGITS:
        return False
    return all([is_within(digit, 0, base - 1) for digit in value])


def need_digits(base, value):
    """The value itself, if it is DIGITS of the base."""
    need_base(base)
    if not are_digits(base, value, 1):
        raise BadDigits(value)
    return value


def number_of(base, row):
    """The value of any tuple of digits, however long: parts of a repetend may be longer than DIGITS."""
    number = 0
    for digit in row:
        number = number * base + digit
    return number


def value_of(base, digits):
    """The integer that the digits denote, the most significant one first."""
    return number_of(base, need_digits(base, digits))


def divided(base, remainder, denominator, count):
    """The tuple of the next digits of a division that has come to this remainder."""
    row = []
    rest = remainder
    for _ in range(count):
        row.append(rest * base // denominator)
        rest = rest * base % denominator
    return tuple(row)


def expansion(base, fraction):
    """The pair of the digits before those that repeat, and of those that repeat."""
    need_base(base)
    numerator, denominator = need_fraction(fraction)
    size = head_size(base, denominator)
    row = divided(base, numerator, denominator, size + period(base, denominator))
    return row[:size], row[size:]


def remainder_at(base, fraction, place):
    """The remainder with this number."""
    need_base(base)
    numerator, denominator = need_fraction(fraction)
    if not is_within(place, 0, LAST_PLACE):
        raise BadNumber(place)
    return numerator * power_rest(base, place, denominator) % denominator


def digit_at(base, fraction, place):
    """The digit with this number."""
    return base * remainder_at(base, fraction, place) // fraction[1]


def digits_from(base, fraction, place, count):
    """The tuple of count digits from the one with number place on."""
    remainder = remainder_at(base, fraction, place)
    if not is_within(count, 0, MOST_DIGITS):
        raise BadNumber(count)
    return divided(base, remainder, fraction[1], count)


def fraction_of(base, head, digits):
    """The FRACTION with the digits of head and then digits, repeated forever."""
    need_base(base)
    if not are_digits(base, head, 0):
        raise BadDigits(head)
    need_digits(base, digits)
    # digits, repeated forever, are worth their value divided by B ** L - 1.
    nines = power(base, len(digits)) - 1
    numerator = number_of(base, head) * nines + number_of(base, digits)
    denominator = power(base, len(head)) * nines
    if numerator == denominator:
        raise Nothing(digits)
    common = gcd(numerator, denominator)
    if denominator // common > MOST_DENOMINATOR:
        raise TooGreat(MOST_DENOMINATOR)
    return numerator // common, denominator // common
