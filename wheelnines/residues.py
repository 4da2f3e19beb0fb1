"""The periods of one denominator in all bases."""

from math import gcd

from wheelnines.counts import counted
from wheelnines.errors import BadNumber
from wheelnines.numbers import MOST_BASE, MOST_DENOMINATOR, is_within, need_denominator


def need_length(value):
    """The value itself, if it is an integer that periods are looked for with."""
    if not is_within(value, 1, MOST_DENOMINATOR):
        raise BadNumber(value)
    return value


def powers_to_one(residue, denominator):
    """The list of the remainders of the powers of a RESIDUE, from the first one to that of 1."""
    one = 1 % denominator
    rests = [residue]
    while rests[-1] != one:
        rests.append(rests[-1] * residue % denominator)
    return rests


def residue_lengths(denominator):
    """The list of the lengths of all integers below the denominator, 0 for those that are no RESIDUES."""
    lengths = [0] * denominator
    for residue in range(denominator):
        if lengths[residue] != 0 or gcd(residue, denominator) != 1:
            continue
        rests = powers_to_one(residue, denominator)
        # Power number K of a RESIDUE with the length L has the length L / gcd(K, L).
        for at, rest in enumerate(rests):
            lengths[rest] = len(rests) // gcd(at + 1, len(rests))
    return lengths


def residues_with(denominator, length):
    """The ascending tuple of the RESIDUES with this length."""
    need_denominator(denominator)
    need_length(length)
    return tuple([residue for residue, found in enumerate(residue_lengths(denominator)) if found == length])


def spread(denominator):
    """The ascending tuple of pairs of a length that occurs and the number of RESIDUES with it."""
    need_denominator(denominator)
    return counted([length for length in residue_lengths(denominator) if length != 0])


def greatest_period(denominator):
    """The greatest length that occurs."""
    need_denominator(denominator)
    return max(residue_lengths(denominator))


def bases_with(denominator, length):
    """The ascending tuple of the BASES in which the denominator is pure and has this period."""
    need_denominator(denominator)
    need_length(length)
    lengths = residue_lengths(denominator)
    # No RESIDUE has the length 0, so no base in which the denominator is not pure is met.
    return tuple([base for base in range(2, MOST_BASE + 1) if lengths[base % denominator] == length])
