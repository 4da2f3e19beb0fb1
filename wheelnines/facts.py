"""Denominators and bases of which some facts are known."""

from math import gcd

from wheelnines.errors import BadFacts, BadNumber
from wheelnines.numbers import MOST_BASE, MOST_DENOMINATOR, head_size, is_within, need_base, need_denominator
from wheelnines.numbers import period, power, power_rest, prime_powers
from wheelnines.pieces import is_balanced_with

MOST_FACTS = 10
GREATEST_BOUND = 1000

# The least and the greatest of each integer behind the word.
RANGES = {
    "period": ((1, 5000),),
    "head": ((0, 20),),
    "wheels": ((1, 5000),),
    "power": ((0, 10 ** 30), (0, 4999)),
}


def is_fact(value):
    """Whether the value is a FACT."""
    if not isinstance(value, tuple) or len(value) == 0 or not isinstance(value[0], str):
        return False
    if value[0] == "balanced":
        return len(value) == 3 and is_within(value[1], 2, MOST_DENOMINATOR) and isinstance(value[2], bool)
    ranges = RANGES.get(value[0], ())
    if len(ranges) == 0 or len(value) != len(ranges) + 1:
        return False
    return all([is_within(number, low, high) for number, (low, high) in zip(value[1:], ranges)])


def need_facts(value):
    """The value itself, if it is FACTS."""
    if not isinstance(value, tuple) or not 1 <= len(value) <= MOST_FACTS:
        raise BadFacts(None)
    for number, fact in enumerate(value):
        if not is_fact(fact):
            raise BadFacts(number)
    return value


def residue_count(denominator):
    """The number of the RESIDUES of a denominator."""
    count = 1
    for prime, exponent in prime_powers(denominator):
        count = count * (prime - 1) * power(prime, exponent - 1)
    return count


def holds(base, denominator, size, fact):
    """Whether a base and a denominator, whose period is size, satisfy one fact."""
    if fact[0] == "period":
        return size == fact[1]
    if fact[0] == "head":
        return head_size(base, denominator) == fact[1]
    if fact[0] == "power":
        return power_rest(base, fact[1], denominator) == fact[2]
    if gcd(base, denominator) != 1:
        return False
    if fact[0] == "wheels":
        # All wheels have the same size, and each RESIDUE stands in just one of them (point 8).
        return residue_count(denominator) == fact[1] * size
    if size % fact[1] != 0:
        return False
    return is_balanced_with(base, denominator, size // fact[1], fact[1]) == fact[2]


def satisfy(base, denominator, facts):
    """Whether a base and a denominator satisfy each fact."""
    size = period(base, denominator)
    for fact in facts:
        if not holds(base, denominator, size, fact):
            return False
    return True


def is_satisfied(base, denominator, facts):
    """Whether the base and the denominator satisfy the facts."""
    need_base(base)
    need_denominator(denominator)
    need_facts(facts)
    return satisfy(base, denominator, facts)


def denominators_by(base, facts, most):
    """The ascending tuple of the DENOMINATORS up to most that satisfy the facts with the base."""
    need_base(base)
    need_facts(facts)
    if not is_within(most, 1, GREATEST_BOUND):
        raise BadNumber(most)
    return tuple([denominator for denominator in range(1, most + 1) if satisfy(base, denominator, facts)])


def bases_by(denominator, facts, most):
    """The ascending tuple of the BASES up to most that satisfy the facts with the denominator."""
    need_denominator(denominator)
    need_facts(facts)
    if not is_within(most, 2, MOST_BASE):
        raise BadNumber(most)
    return tuple([base for base in range(2, most + 1) if satisfy(base, denominator, facts)])
