"""How often digits occur among those that repeat."""

from math import gcd

from wheelnines.digits import expansion
from wheelnines.numbers import need_pure, need_pure_fraction


def counted(row):
    """The ascending tuple of pairs of an integer that occurs in the row and how often it does."""
    counts = {}
    for number in row:
        counts[number] = counts.get(number, 0) + 1
    return tuple(sorted(list(counts.items())))


def digit_sum(base, fraction):
    """The sum of the digits that repeat."""
    need_pure_fraction(base, fraction)
    return sum(expansion(base, fraction)[1])


def digit_counts(base, fraction):
    """The ascending tuple of pairs of a digit that repeats and how often it occurs."""
    need_pure_fraction(base, fraction)
    return counted(expansion(base, fraction)[1])


def all_counts(base, denominator):
    """The same for one fraction of each wheel of the denominator, all together."""
    need_pure(base, denominator)
    # All wheels together have each numerator just once, and each of their numbers gives one digit (point 14).
    numerators = [number for number in range(denominator) if gcd(number, denominator) == 1]
    return counted([base * number // denominator for number in numerators])
