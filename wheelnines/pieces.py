"""Repeating digits, cut into equal pieces, and whether the pieces sum to nines."""

from math import gcd

from wheelnines.digits import expansion, number_of
from wheelnines.errors import BadNumber, BadPaper, Nothing
from wheelnines.numbers import is_integer, is_within, need_pure, need_pure_fraction, period
from wheelnines.numbers import power, power_rest, prime_powers


def piece_size(base, denominator, cut):
    """The number of digits of a piece, if cut is a cut of the denominator."""
    size = period(base, denominator)
    if not is_within(cut, 2, size) or size % cut != 0:
        raise BadNumber(cut)
    return size // cut


def spaced(base, fraction, size, count):
    """The tuple of the remainders number 0, size, 2 * size and so on, count of them."""
    numerator, denominator = fraction
    step = power_rest(base, size, denominator)
    rests = []
    rest = numerator
    for _ in range(count):
        rests.append(rest)
        rest = rest * step % denominator
    return tuple(rests)


def pieces(base, fraction, cut):
    """The tuple of the values of the pieces of the repeating digits."""
    need_pure_fraction(base, fraction)
    size = piece_size(base, fraction[1], cut)
    repetend = expansion(base, fraction)[1]
    return tuple([number_of(base, repetend[at * size:(at + 1) * size]) for at in range(cut)])


def quotient(base, fraction, cut):
    """The sum of the pieces divided by B ** K - 1, or None if that is no integer."""
    need_pure_fraction(base, fraction)
    size = piece_size(base, fraction[1], cut)
    # The sum of the pieces is B ** K - 1 times this sum, divided by the denominator (point 5).
    total = sum(spaced(base, fraction, size, cut))
    if total % fraction[1] != 0:
        return None
    return total // fraction[1]


def is_balanced_with(base, denominator, size, cut):
    """Whether the denominator is balanced by a cut with pieces of this size (point 6)."""
    return sum(spaced(base, (1, denominator), size, cut)) % denominator == 0


def is_balanced(base, denominator, cut):
    """Whether the fractions with this denominator are balanced by the cut."""
    need_pure(base, denominator)
    return is_balanced_with(base, denominator, piece_size(base, denominator, cut), cut)


def shows_imbalance(base, denominator, size, cut, row):
    """Whether a prime and its exponent in the denominator show that it is not balanced."""
    prime, exponent = row
    if power_rest(base, size, prime) != 1:
        return False
    return sum(spaced(base, (1, denominator), size, cut)) % power(prime, exponent) != 0


def balance_paper(base, denominator, cut):
    """The certificate of whether the denominator is balanced by the cut."""
    need_pure(base, denominator)
    size = piece_size(base, denominator, cut)
    if is_balanced_with(base, denominator, size, cut):
        return "balanced", spaced(base, (1, denominator), size, cut)
    rows = [row for row in prime_powers(denominator) if shows_imbalance(base, denominator, size, cut, row)]
    return "unbalanced", rows[0][0], rows[0][1]


def paper_kind(paper):
    """The first item of a certificate that has the form of one."""
    if not isinstance(paper, tuple) or len(paper) == 0 or not isinstance(paper[0], str):
        raise BadPaper("form")
    if (paper[0], len(paper)) not in (("balanced", 2), ("unbalanced", 3)):
        raise BadPaper("form")
    return paper[0]


def proves_balanced(base, denominator, size, cut, remainders):
    """Whether these are the remainders of a certificate of the first kind."""
    # True equals 1, so the items are looked at before they are compared.
    if not isinstance(remainders, tuple) or not all([is_integer(rest) for rest in remainders]):
        return False
    return remainders == spaced(base, (1, denominator), size, cut) and sum(remainders) % denominator == 0


def proves_unbalanced(base, denominator, size, cut, row):
    """Whether these are the prime and the exponent of a certificate of the second kind."""
    if not is_integer(row[0]) or not is_integer(row[1]):
        return False
    return row in prime_powers(denominator) and shows_imbalance(base, denominator, size, cut, row)


def check_balance(base, denominator, cut, paper):
    """The kind of the certificate, if it is one for this denominator and cut."""
    need_pure(base, denominator)
    size = piece_size(base, denominator, cut)
    kind = paper_kind(paper)
    if kind == "balanced":
        holds = proves_balanced(base, denominator, size, cut, paper[1])
    else:
        holds = proves_unbalanced(base, denominator, size, cut, (paper[1], paper[2]))
    if not holds:
        raise BadPaper(kind)
    return kind


def cuts(base, denominator):
    """The ascending tuple of the cuts by which the denominator is balanced."""
    need_pure(base, denominator)
    size = period(base, denominator)
    divisors = [cut for cut in range(2, size + 1) if size % cut == 0]
    return tuple([cut for cut in divisors if is_balanced_with(base, denominator, size // cut, cut)])


def least_cuts(base, denominator):
    """The ascending tuple of those of these cuts that no other one divides."""
    found = []
    for cut in cuts(base, denominator):
        if all([cut % less != 0 for less in found]):
            found.append(cut)
    return tuple(found)


def quotients(base, denominator, cut):
    """The ascending tuple of pairs of a quotient and the number of fractions that have it."""
    if not is_balanced(base, denominator, cut):
        raise Nothing(cut)
    size = piece_size(base, denominator, cut)
    counts = {}
    met = [False] * denominator
    for numerator in range(1, denominator):
        if met[numerator] or gcd(numerator, denominator) != 1:
            continue
        # The fractions with these numerators have the same sum: their pieces are rotated.
        rests = spaced(base, (numerator, denominator), size, cut)
        for rest in rests:
            met[rest] = True
        found = sum(rests) // denominator
        counts[found] = counts.get(found, 0) + cut
    return tuple(sorted(list(counts.items())))
