"""Remainders of integers by their blocks of digits."""

from wheelnines.errors import BadNumber, BadPaper
from wheelnines.numbers import head_size, is_integer, is_within, need_base, need_denominator, period
from wheelnines.numbers import power, power_rest
from wheelnines.pieces import spaced

MOST_SIZE = 400
MOST_WEIGHT = 1000
MOST_NUMBER = 10 ** 60
MOST_EXPONENT = 10000


def need_size(value):
    """Fail unless the value is a SIZE."""
    if not is_within(value, 1, MOST_SIZE):
        raise BadNumber(value)


def need_weight(value):
    """Fail unless the value is a WEIGHT."""
    if not is_within(value, -MOST_WEIGHT, MOST_WEIGHT):
        raise BadNumber(value)


def block_sum(base, size, weight, number):
    """The sum of the blocks, each multiplied by the weight to the power of its number."""
    need_base(base)
    need_size(size)
    need_weight(weight)
    if not is_within(number, 0, MOST_NUMBER):
        raise BadNumber(number)
    unit = power(base, size)
    total = 0
    factor = 1
    left = number
    while left > 0:
        total = total + left % unit * factor
        factor = factor * weight
        left = left // unit
    return total


def leaves_weight(base, denominator, exponent, weight):
    """Whether the denominator divides the base to the power of the exponent, minus the weight."""
    return power_rest(base, exponent, denominator) == weight % denominator


def keeps_remainders(base, denominator, size, weight):
    """Whether integers and their block sums have the same remainders."""
    need_base(base)
    need_denominator(denominator)
    need_size(size)
    need_weight(weight)
    return leaves_weight(base, denominator, size, weight)


def power_rests(base, denominator):
    """The tuple of the remainders of the powers of the base, from the first one until they repeat."""
    count = head_size(base, denominator) + period(base, denominator)
    return spaced(base, (base % denominator, denominator), 1, count)


def least_exponent(base, denominator, weight):
    """The least exponent of the weight, None if there is none."""
    need_base(base)
    need_denominator(denominator)
    need_weight(weight)
    rests = power_rests(base, denominator)
    wanted = weight % denominator
    if wanted not in rests:
        return None
    return rests.index(wanted) + 1


def exponents(base, denominator, weight):
    """The least exponent of the weight and the step to the next ones, 0 if there are none."""
    first = least_exponent(base, denominator, weight)
    if first is None:
        return None
    # The remainders of the first powers, as many as HEAD has digits, do not come back (point 17).
    if first < head_size(base, denominator):
        return first, 0
    return first, period(base, denominator)


def exponent_paper(base, denominator, weight):
    """The certificate of whether the weight has an exponent."""
    first = least_exponent(base, denominator, weight)
    if first is None:
        return "never", power_rests(base, denominator)
    return "exponent", first


def proves_never(base, denominator, weight, remainders):
    """Whether these are the remainders of all powers, and none of them is that of the weight."""
    # What is no integer may equal one, so the items are looked at before they are compared.
    if not isinstance(remainders, tuple) or not all([is_integer(rest) for rest in remainders]):
        return False
    return remainders == power_rests(base, denominator) and weight % denominator not in remainders


def check_exponent(base, denominator, weight, paper):
    """The kind of the certificate, if it is one for this denominator and weight."""
    need_base(base)
    need_denominator(denominator)
    need_weight(weight)
    if not isinstance(paper, tuple) or len(paper) != 2 or not isinstance(paper[0], str):
        raise BadPaper("form")
    kind, proof = paper
    if kind == "exponent":
        holds = is_within(proof, 1, MOST_EXPONENT) and leaves_weight(base, denominator, proof, weight)
    elif kind == "never":
        holds = proves_never(base, denominator, weight, proof)
    else:
        raise BadPaper("form")
    if not holds:
        raise BadPaper(kind)
    return kind
