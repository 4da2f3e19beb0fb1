"""Rotated digits, and fractions whose repeating digits are rotations of one another."""

from math import gcd

from wheelnines.digits import need_digits
from wheelnines.errors import BadFraction, BadNumber
from wheelnines.numbers import is_within, need_pure, need_pure_fraction, period
from wheelnines.pieces import spaced

MOST_STEPS = 10 ** 30


def rotated(base, digits, by):
    """The digits after the first one has moved behind the last one so many times."""
    need_digits(base, digits)
    if not is_within(by, 0, MOST_STEPS):
        raise BadNumber(by)
    start = by % len(digits)
    return digits[start:] + digits[:start]


def wheel(base, fraction):
    """The tuple of the remainders until they repeat."""
    need_pure_fraction(base, fraction)
    return spaced(base, fraction, 1, period(base, fraction[1]))


def wheels(base, denominator):
    """The ascending tuple of the least numerators of all wheels."""
    need_pure(base, denominator)
    met = [False] * denominator
    least = []
    for numerator in range(denominator):
        if met[numerator] or gcd(numerator, denominator) != 1:
            continue
        least.append(numerator)
        for rest in wheel(base, (numerator, denominator)):
            met[rest] = True
    return tuple(least)


def rotation(base, fraction, other):
    """By how much the repeating digits of fraction are rotated in other, None if they are not."""
    need_pure_fraction(base, fraction)
    need_pure_fraction(base, other)
    if other[1] != fraction[1]:
        raise BadFraction(other)
    # The digits are rotated exactly as the remainders are (point 8).
    for steps, rest in enumerate(wheel(base, fraction)):
        if rest == other[0]:
            return steps
    return None
