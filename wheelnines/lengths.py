"""Denominators with a period, and certificates of periods."""

from math import gcd

from wheelnines.dial import are_two_integers
from wheelnines.errors import BadNumber, BadPaper
from wheelnines.numbers import MOST_DENOMINATOR, is_within, need_base, need_denominator, period
from wheelnines.numbers import power_rest, prime_powers, pure_part
from wheelnines.residues import need_length


def prime_rests(base, pure, length):
    """The tuple of pairs of a prime P that divides the length L, and of the remainder of B ** (L / P)."""
    return tuple([(prime, power_rest(base, length // prime, pure)) for prime, _ in prime_powers(length)])


def is_repeated(base, pure, length):
    """Whether the remainders of the powers of the base are the same again after so many."""
    return power_rest(base, length, pure) == 1 % pure


def is_shortest(pure, pairs):
    """Whether none of the remainders is that of 1."""
    return all([rest != 1 % pure for _, rest in pairs])


def has_period(base, pure, length):
    """Whether this is the period of a denominator that is pure (point 12)."""
    return is_repeated(base, pure, length) and is_shortest(pure, prime_rests(base, pure, length))


def denominators_with(base, length, most):
    """The ascending tuple of the pure DENOMINATORS up to most that have this period."""
    need_base(base)
    need_length(length)
    if not is_within(most, 1, MOST_DENOMINATOR):
        raise BadNumber(most)
    pures = [denominator for denominator in range(1, most + 1) if gcd(base, denominator) == 1]
    return tuple([pure for pure in pures if has_period(base, pure, length)])


def period_paper(base, denominator):
    """The certificate of the period."""
    length = period(base, denominator)
    return length, prime_rests(base, pure_part(base, denominator), length)


def need_period_form(paper):
    """Fail unless the paper has the form of a certificate of a period."""
    if not isinstance(paper, tuple) or len(paper) != 2:
        raise BadPaper("form")
    if not is_within(paper[0], 1, MOST_DENOMINATOR) or not isinstance(paper[1], tuple):
        raise BadPaper("form")


def check_period(base, denominator, paper):
    """The period that the certificate proves."""
    need_base(base)
    need_denominator(denominator)
    need_period_form(paper)
    length, pairs = paper
    pure = pure_part(base, denominator)
    if not is_repeated(base, pure, length):
        raise BadPaper("power")
    # What is no integer may equal one, so the items are looked at before they are compared.
    if not all([are_two_integers(row) for row in pairs]) or pairs != prime_rests(base, pure, length):
        raise BadPaper("pairs")
    if not is_shortest(pure, pairs):
        raise BadPaper("pairs")
    return length
