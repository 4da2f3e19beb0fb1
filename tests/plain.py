"""What the document defines, computed the plain way, without the package."""

from fractions import Fraction
from math import gcd

BASES = (2, 3, 6, 8, 10, 12, 31, 97, 256, 360, 999, 1000)


def numerators(denominator):
    return [number for number in range(denominator) if gcd(number, denominator) == 1]


def fractions_up_to(most):
    return [(number, denominator) for denominator in range(1, most + 1) for number in numerators(denominator)]


def pure_part(base, denominator):
    divisors = [number for number in range(1, denominator + 1) if denominator % number == 0]
    return max([number for number in divisors if gcd(number, base) == 1])


def period(base, denominator):
    pure = pure_part(base, denominator)
    size = 1
    while pow(base, size, pure) != 1 % pure:
        size += 1
    return size


def expansion(base, fraction):
    """Long division until a remainder comes back: the digits from its first time on repeat."""
    rest, denominator = fraction
    places = {}
    digits = []
    while rest not in places:
        places[rest] = len(digits)
        digits.append(base * rest // denominator)
        rest = base * rest % denominator
    start = places[rest]
    return tuple(digits[:start]), tuple(digits[start:])


def value(base, digits):
    return sum([digit * base ** place for place, digit in enumerate(reversed(digits))])


def repeated(base, head, digits):
    """The number that head and then digits, repeated forever, denote."""
    tail = Fraction(value(base, digits), base ** len(digits) - 1)
    return (value(base, head) + tail) / base ** len(head)


def divisors_from_two(number):
    return [divisor for divisor in range(2, number + 1) if number % divisor == 0]


def all_cuts(base, denominator):
    """Every cut, also those by which the denominator is not balanced."""
    if denominator == 1:
        return []
    return divisors_from_two(period(base, denominator))


def pieces(base, fraction, cut):
    repetend = expansion(base, fraction)[1]
    size = len(repetend) // cut
    return tuple([value(base, repetend[at:at + size]) for at in range(0, len(repetend), size)])


def quotient(base, fraction, cut):
    size = len(expansion(base, fraction)[1]) // cut
    whole, rest = divmod(sum(pieces(base, fraction, cut)), base ** size - 1)
    return whole if rest == 0 else None


def power_sum(base, denominator, cut):
    """1 + B ** K + .. + B ** ((D - 1) * K), in full."""
    size = period(base, denominator) // cut
    return sum([base ** (size * number) for number in range(cut)])


def is_prime(number):
    return number > 1 and all([number % divisor for divisor in range(2, number)])


def prime_powers(number):
    """The triples of a prime P that divides number, A and P ** A, the highest power that does."""
    rows = []
    for prime in range(2, number + 1):
        if number % prime == 0 and is_prime(prime):
            exponent = 1
            while number % prime ** (exponent + 1) == 0:
                exponent += 1
            rows.append((prime, exponent, prime ** exponent))
    return rows


def unbalanced_papers(base, denominator, cut):
    size = period(base, denominator) // cut
    total = power_sum(base, denominator, cut)
    return [
        ("unbalanced", prime, exponent)
        for prime, exponent, power in prime_powers(denominator)
        if (base ** size - 1) % prime == 0 and total % power != 0
    ]


def balanced_paper(base, denominator, cut):
    size = period(base, denominator) // cut
    return "balanced", tuple([pow(base, size * number, denominator) for number in range(cut)])


def rotated(digits, by):
    row = list(digits)
    for _ in range(by):
        row.append(row.pop(0))
    return tuple(row)


def wheel(base, fraction):
    """The remainders until the first one comes back."""
    rests = [fraction[0]]
    while base * rests[-1] % fraction[1] != rests[0]:
        rests.append(base * rests[-1] % fraction[1])
    return tuple(rests)


def wheels(base, denominator):
    return tuple(sorted({min(wheel(base, (number, denominator))) for number in numerators(denominator)}))


def rotation(base, fraction, other):
    repetend = expansion(base, fraction)[1]
    wanted = expansion(base, other)[1]
    steps = [by for by in range(len(repetend)) if rotated(repetend, by) == wanted]
    return steps[0] if steps else None


def all_turned(base, digits):
    """The values of all rotations."""
    powers = [base ** place for place in range(len(digits))]
    rows = [rotated(digits, by) for by in range(len(digits))]
    return [sum([digit * power for digit, power in zip(reversed(row), powers)]) for row in rows]


def multipliers(base, digits):
    number = value(base, digits)
    return tuple(sorted({other // number for other in all_turned(base, digits) if other % number == 0}))


def is_cyclic(base, digits):
    if len(digits) < 2 or not any(digits):
        return False
    number = value(base, digits)
    turned = all_turned(base, digits)
    return all([many * number in turned for many in range(1, len(digits) + 1)])


def quick_period(base, denominator):
    """The period of a pure denominator, from power to power."""
    rest = base % denominator
    size = 1
    while rest != 1 % denominator:
        rest = rest * base % denominator
        size += 1
    return size


def lengths(denominator):
    """The length of each RESIDUE, going from power to power for each one."""
    return {residue: quick_period(residue, denominator) for residue in numerators(denominator)}


def period_paper(base, denominator):
    size = period(base, denominator)
    pure = pure_part(base, denominator)
    return size, tuple([(prime, base ** (size // prime) % pure) for prime, _, _ in prime_powers(size)])


def sum_of(one, two):
    total = (Fraction(*one) + Fraction(*two)) % 1
    return total.numerator, total.denominator


def sum_denominators(one, two):
    """The denominators of all sums, tried one by one; also those that are no DENOMINATORS."""
    found = set()
    for first in numerators(one):
        for second in numerators(two):
            total = first * two + second * one
            found.add(one * two // gcd(total, one * two))
    return tuple(sorted(found))


def counted(row):
    return tuple([(item, row.count(item)) for item in sorted(set(row))])


def digit_at(base, fraction, place):
    """The digit that is wanted of a division that is stopped behind it."""
    return fraction[0] * base ** (place + 1) // fraction[1] % base


def first_digits(base, fraction, count):
    return tuple([digit_at(base, fraction, place) for place in range(count)])


def fits(base, fraction, seen):
    digits = first_digits(base, fraction, len(seen))
    return all([item is None or item == digit for item, digit in zip(seen, digits)])


def block_sum(base, size, weight, number):
    """The blocks cut out of the row of all digits, and the powers in full."""
    digits = []
    while number > 0:
        number, digit = divmod(number, base)
        digits.append(digit)
    blocks = [value(base, tuple(reversed(digits[at:at + size]))) for at in range(0, len(digits), size)]
    return sum([block * weight ** at for at, block in enumerate(blocks)])


def exponents_up_to(base, denominator, weight, most):
    return [exponent for exponent in range(1, most + 1) if (base ** exponent - weight) % denominator == 0]


def satisfies(base, denominator, fact):
    word, *numbers = fact
    head, repetend = expansion(base, (1 % denominator, denominator))
    is_pure = gcd(base, denominator) == 1
    if word == "period":
        return len(repetend) == numbers[0]
    if word == "head":
        return len(head) == numbers[0]
    if word == "wheels":
        return is_pure and len(wheels(base, denominator)) == numbers[0]
    if word == "power":
        return pow(base, numbers[0], denominator) == numbers[1]
    if not is_pure or numbers[0] not in all_cuts(base, denominator):
        return False
    return (power_sum(base, denominator, numbers[0]) % denominator == 0) is numbers[1]
