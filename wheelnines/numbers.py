"""Bases, denominators and fractions, and how long their digits repeat."""

from math import gcd

from wheelnines.errors import BadBase, BadDenominator, BadFraction, BadNumber

MOST_BASE = 1000
MOST_DENOMINATOR = 5000


def is_integer(value):
    """Whether value is an integer: True and False are none here."""
    return isinstance(value, int) and not isinstance(value, bool)


def is_within(value, low, high):
    """Whether value is an integer from low to high."""
    return is_integer(value) and low <= value <= high


def need_base(value):
    """The value itself, if it is a BASE."""
    if not is_within(value, 2, MOST_BASE):
        raise BadBase(value)
    return value


def need_denominator(value):
    """The value itself, if it is a DENOMINATOR."""
    if not is_within(value, 1, MOST_DENOMINATOR):
        raise BadDenominator(value)
    return value


def need_fraction(value):
    """The value itself, if it is a FRACTION."""
    if not isinstance(value, tuple) or len(value) != 2:
        raise BadFraction(value)
    numerator, denominator = value
    if not is_within(denominator, 1, MOST_DENOMINATOR) or not is_within(numerator, 0, denominator - 1):
        raise BadFraction(value)
    if gcd(numerator, denominator) != 1:
        raise BadFraction(value)
    return value


def need_pure(base, denominator):
    """The denominator itself, if it is pure in the base."""
    need_base(base)
    need_denominator(denominator)
    if gcd(base, denominator) != 1:
        raise BadDenominator(denominator)
    return denominator


def need_pure_fraction(base, fraction):
    """The fraction itself, if its denominator is pure in the base."""
    need_base(base)
    need_fraction(fraction)
    if gcd(base, fraction[1]) != 1:
        raise BadFraction(fraction)
    return fraction


def reduced(numerator, denominator):
    """The FRACTION that differs from numerator / denominator by an integer."""
    if not is_integer(numerator):
        raise BadNumber(numerator)
    need_denominator(denominator)
    rest = numerator % denominator
    common = gcd(rest, denominator)
    return rest // common, denominator // common


def pure_part(base, denominator):
    """The greatest divisor of the denominator that is pure in the base."""
    need_base(base)
    need_denominator(denominator)
    pure = denominator
    common = gcd(base, pure)
    while common > 1:
        pure = pure // common
        common = gcd(base, pure)
    return pure


def period(base, denominator):
    """The number of digits that repeat."""
    pure = pure_part(base, denominator)
    # Every remainder by 1 is 0, so the remainder of 1 is not always 1.
    one = 1 % pure
    rest = base % pure
    size = 1
    while rest != one:
        rest = rest * base % pure
        size += 1
    return size


def head_size(base, denominator):
    """The number of digits before those that repeat."""
    # The head ends where the power of the base has taken up the impure part.
    impure = denominator // pure_part(base, denominator)
    rest = 1 % impure
    size = 0
    while rest != 0:
        rest = rest * base % impure
        size += 1
    return size


def power(number, exponent):
    """The number to the power of a small exponent."""
    result = 1
    for _ in range(exponent):
        result = result * number
    return result


def power_rest(number, exponent, divisor):
    """The remainder of a power, also of an exponent with many digits."""
    rest = 1 % divisor
    square = number % divisor
    left = exponent
    while left > 0:
        if left % 2 == 1:
            rest = rest * square % divisor
        square = square * square % divisor
        left = left // 2
    return rest


def prime_powers(number):
    """The ascending list of pairs (P, A): P ** A is the highest power of the prime P in it."""
    rows = []
    left = number
    prime = 2
    while left > 1:
        # What is left has no smaller divisor, so it is itself a prime.
        if prime * prime > left:
            prime = left
        exponent = 0
        while left % prime == 0:
            left = left // prime
            exponent += 1
        if exponent > 0:
            rows.append((prime, exponent))
        prime += 1
    return rows
