"""Digits whose multiples are their rotations."""

from wheelnines.digits import value_of
from wheelnines.errors import BadNumber, Nothing
from wheelnines.numbers import is_within, need_base, period, power

GREATEST_MOST = 400


def multipliers(base, digits):
    """The ascending tuple of the integers T for which T times their value is that of a rotation."""
    number = value_of(base, digits)
    if number == 0:
        raise Nothing(digits)
    nines = power(base, len(digits)) - 1
    found = []
    turned = number
    for digit in digits:
        if turned % number == 0:
            found.append(turned // number)
        # In front of the others, the digit that moves behind them would be worth B ** L times as much.
        turned = turned * base - digit * nines
    return tuple(sorted(set(found)))


def is_cyclic(base, digits):
    """Whether each integer from 1 to their size is a multiplier of these digits."""
    if value_of(base, digits) == 0 or len(digits) < 2:
        return False
    # There are no more multipliers than rotations, so there can be no others.
    return multipliers(base, digits) == tuple(range(1, len(digits) + 1))


def cyclic_denominators(base, most):
    """The ascending tuple of the primes up to most whose periods are one less than they are."""
    need_base(base)
    if not is_within(most, 1, GREATEST_MOST):
        raise BadNumber(most)
    # Only of a prime the period can be as long as that (points 4 and 9).
    return tuple([prime for prime in range(3, most + 1) if period(base, prime) == prime - 1])
