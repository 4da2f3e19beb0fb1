"""Sums of two fractions, and the denominators that they have."""

from math import gcd, lcm

from wheelnines.dial import added
from wheelnines.errors import Nothing, TooGreat
from wheelnines.numbers import MOST_DENOMINATOR, need_base, need_denominator, need_fraction, period
from wheelnines.numbers import power, prime_powers


def sum_of(fraction, other):
    """The sum of two FRACTIONS without its integer part."""
    return added(need_fraction(fraction), need_fraction(other))


def sum_exponents(prime, one, two):
    """The list of the exponents of a prime in the sum denominators, from those in both denominators."""
    if one != two:
        return [max(one, two)]
    # The sum of two odd numbers is even.
    if prime == 2:
        return list(range(one))
    return list(range(one + 1))


def sum_denominators(one, two):
    """The ascending tuple of the denominators of all sums of FRACTIONS with these denominators."""
    need_denominator(one)
    need_denominator(two)
    in_one = dict(prime_powers(one))
    in_two = dict(prime_powers(two))
    found = [1]
    for prime, _ in prime_powers(lcm(one, two)):
        exponents = sum_exponents(prime, in_one.get(prime, 0), in_two.get(prime, 0))
        factors = [power(prime, exponent) for exponent in exponents]
        found = [number * factor for number in found for factor in factors]
    if max(found) > MOST_DENOMINATOR:
        raise TooGreat(MOST_DENOMINATOR)
    return tuple(sorted(found))


def sum_periods(base, one, two):
    """The ascending tuple of the periods that the sum denominators have."""
    need_base(base)
    return tuple(sorted(set([period(base, denominator) for denominator in sum_denominators(one, two)])))


def sum_denominator(fraction, other):
    """The denominator of the sum, also if it is no DENOMINATOR."""
    total = fraction[0] * other[1] + other[0] * fraction[1]
    product = fraction[1] * other[1]
    return product // gcd(total, product)


def sum_example(one, two, denominator):
    """A pair of FRACTIONS with the denominators one and two whose sum has this denominator."""
    need_denominator(one)
    need_denominator(two)
    need_denominator(denominator)
    # Both may be multiplied by what has no common divisor with one and two: the sum keeps its denominator.
    # So the first numerator can be made 1.
    fraction = (1 % one, one)
    for numerator in range(two):
        other = (numerator, two)
        if gcd(numerator, two) == 1 and sum_denominator(fraction, other) == denominator:
            return fraction, other
    raise Nothing(denominator)
