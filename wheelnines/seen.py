"""Fractions of which some digits are seen."""

from math import gcd

from wheelnines.digits import divided
from wheelnines.errors import BadNumber, BadSeen, Nothing, TooGreat
from wheelnines.numbers import is_within, need_base, need_fraction

MOST_SEEN = 20
GREATEST_BOUND = 200
MOST_FITTING = 1000
MOST_SURE = 60


def need_seen(base, value):
    """The value itself, if it is SEEN of the base."""
    need_base(base)
    if not isinstance(value, tuple) or not 1 <= len(value) <= MOST_SEEN:
        raise BadSeen(value)
    if not all([item is None or is_within(item, 0, base - 1) for item in value]):
        raise BadSeen(value)
    return value


def has_digits(base, fraction, seen):
    """Whether the digits of the fraction are the ones that are seen."""
    rest, denominator = fraction
    for item in seen:
        if item is not None and base * rest // denominator != item:
            return False
        rest = base * rest % denominator
    return True


def fits(base, fraction, seen):
    """Whether the fraction fits what is seen."""
    need_base(base)
    need_fraction(fraction)
    need_seen(base, seen)
    return has_digits(base, fraction, seen)


def all_fitting(base, seen, most):
    """The list of all FRACTIONS with a denominator up to most that fit, however many."""
    need_seen(base, seen)
    if not is_within(most, 1, GREATEST_BOUND):
        raise BadNumber(most)
    found = []
    for denominator in range(1, most + 1):
        for numerator in range(denominator):
            if gcd(numerator, denominator) == 1 and has_digits(base, (numerator, denominator), seen):
                found.append((numerator, denominator))
    return found


def fitting(base, seen, most):
    """The tuple of all FRACTIONS with a denominator up to most that fit."""
    found = all_fitting(base, seen, most)
    if len(found) > MOST_FITTING:
        raise TooGreat(MOST_FITTING)
    return tuple(found)


def simplest(base, seen, most):
    """The first one of all these FRACTIONS, None if there is none."""
    found = all_fitting(base, seen, most)
    if len(found) == 0:
        return None
    return found[0]


def sure_digits(base, seen, most, count):
    """The tuple of the first digits of all these FRACTIONS, None where they differ."""
    found = all_fitting(base, seen, most)
    if not is_within(count, 0, MOST_SURE):
        raise BadNumber(count)
    if len(found) == 0:
        raise Nothing(seen)
    sure = divided(base, found[0][0], found[0][1], count)
    for numerator, denominator in found:
        row = divided(base, numerator, denominator, count)
        sure = [digit if digit == known else None for digit, known in zip(row, sure)]
    return tuple(sure)
