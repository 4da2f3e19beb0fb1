"""Point 9 and wheelnines/cyclic.py: multipliers, cyclic digits, cyclic denominators."""

import unittest
from itertools import product

from tests import plain
from tests.case import HUGE, NO_INTEGERS, Case
from wheelnines.cyclic import cyclic_denominators, is_cyclic, multipliers
from wheelnines.digits import expansion
from wheelnines.errors import BadDigits, BadNumber, Nothing

NO_DIGITS = ((), (10,), (1, 10), (1, -1), (1, True), [1, 2], "142857", None, 142857, (1,) * 401)

CYCLIC_IN_TEN = (
    7, 17, 19, 23, 29, 47, 59, 61, 97, 109, 113, 131, 149, 167, 179, 181, 193, 223, 229, 233, 257, 263, 269,
    313, 337, 367, 379, 383, 389,
)


def all_digits(base, most):
    return [row for size in range(1, most + 1) for row in product(range(base), repeat=size)]


class Multipliers(Case):
    def test_told_ones(self):
        self.same(multipliers(10, (1, 4, 2, 8, 5, 7)), (1, 2, 3, 4, 5, 6))
        self.same(multipliers(10, (8, 5, 7, 1, 4, 2)), (1,))
        self.same(multipliers(10, (2, 8, 5, 7, 1, 4)), (1, 2, 3))
        self.same(multipliers(10, (0, 7, 6, 9, 2, 3)), (1, 3, 4, 9, 10, 12))
        self.same(multipliers(10, (5,)), (1,))
        self.same(multipliers(10, (0, 1)), (1, 10))
        self.same(multipliers(10, (1, 0)), (1,))
        self.same(multipliers(10, (0, 0, 2)), (1, 10, 100))
        self.same(multipliers(10, (3, 3, 3)), (1,))
        self.same(multipliers(10, (0, 3, 0, 3)), (1, 10))
        self.same(multipliers(2, (0, 1)), (1, 2))
        self.same(multipliers(2, (0, 0, 1, 1)), (1, 2, 3, 4))

    def test_short_ones_against_the_plain_one(self):
        for base, most in ((2, 10), (3, 6), (4, 5), (5, 4), (10, 4), (12, 3), (30, 2)):
            for row in all_digits(base, most):
                if any(row):
                    self.same(multipliers(base, row), plain.multipliers(base, row))

    def test_one_digit(self):
        for base in (2, 10, 1000):
            for digit in range(1, base):
                self.same(multipliers(base, (digit,)), (1,))

    def test_expansions_against_the_plain_one(self):
        for base in plain.BASES:
            for fraction in plain.fractions_up_to(32):
                repetend = expansion(base, fraction)[1]
                if any(repetend):
                    self.same(multipliers(base, repetend), plain.multipliers(base, repetend))
                    self.same(multipliers(base, repetend * 2), plain.multipliers(base, repetend * 2))
                    led = (0, 0) + repetend
                    self.same(multipliers(base, led), plain.multipliers(base, led))

    def test_400_digits(self):
        for base in (2, 10, 999, 1000):
            top = base - 1
            for row in (
                (0,) * 399 + (1,),
                (1,) + (0,) * 399,
                (0,) * 200 + (1,) * 200,
                (0, 1) * 200,
                (0, 0, 0, 1) * 100,
                (top,) * 400,
                (1,) * 400,
                (0,) * 10 + (1, top) * 195,
                tuple([place * place % base for place in range(400)]),
            ):
                self.same(multipliers(base, row), plain.multipliers(base, row))
        powers = tuple([10 ** place for place in range(400)])
        self.same(multipliers(10, (0,) * 399 + (7,)), powers)

    def test_cyclic_ones(self):
        for prime in CYCLIC_IN_TEN:
            repetend = expansion(10, (1, prime))[1]
            self.same(multipliers(10, repetend), tuple(range(1, prime)))

    def test_all_zero(self):
        for base in (2, 10, 1000):
            for size in (1, 2, 3, 7, 399, 400):
                self.fails(Nothing, (0,) * size, multipliers, base, (0,) * size)

    def test_no_digits(self):
        for row in NO_DIGITS + ((0,) * 401, (False,), (0, False), [0]):
            self.fails(BadDigits, row, multipliers, 10, row)


class IsCyclic(Case):
    def test_told_ones(self):
        self.same(is_cyclic(10, (1, 4, 2, 8, 5, 7)), True)
        self.same(is_cyclic(10, (4, 2, 8, 5, 7, 1)), False)
        self.same(is_cyclic(10, (0, 7, 6, 9, 2, 3)), False)
        self.same(is_cyclic(2, (0, 1)), True)
        self.same(is_cyclic(2, (1, 0)), False)
        self.same(is_cyclic(5, (1, 3)), True)
        self.same(is_cyclic(10, (1, 4, 2, 8, 5, 7) * 2), False)

    def test_all_short_digits(self):
        found = 0
        for base, most in ((2, 12), (3, 7), (4, 6), (5, 5), (6, 4), (7, 4), (10, 4), (12, 3), (60, 2)):
            for row in all_digits(base, most):
                expected = plain.is_cyclic(base, row)
                self.same(is_cyclic(base, row), expected)
                found += expected
        self.assertGreater(found, 5)

    def test_one_digit_and_zeros(self):
        for base in (2, 3, 10, 1000):
            for digit in range(base):
                self.same(is_cyclic(base, (digit,)), False)
            for size in (1, 2, 3, 6, 400):
                self.same(is_cyclic(base, (0,) * size), False)

    def test_exactly_the_expansions_of_some_primes(self):
        for base in plain.BASES:
            for denominator in range(3, 80):
                head, repetend = expansion(base, (1, denominator))
                if head:
                    continue
                full = plain.is_prime(denominator) and len(repetend) == denominator - 1
                self.same(is_cyclic(base, repetend), full)
                if denominator > 4:
                    other = expansion(base, (denominator - 1, denominator))[1]
                    self.same(is_cyclic(base, other), False)

    def test_great_sizes(self):
        for base, prime in ((10, 389), (2, 389), (1000, 389), (10, 397), (3, 401), (10, 401)):
            repetend = expansion(base, (1, prime))[1]
            self.same(is_cyclic(base, repetend), len(repetend) == prime - 1)
            turned = repetend[1:] + repetend[:1]
            self.same(is_cyclic(base, turned), False)
        self.same(is_cyclic(3, expansion(3, (1, 401))[1]), True)
        self.same(is_cyclic(10, (9,) * 400), False)
        self.same(is_cyclic(10, (0,) * 399 + (1,)), False)

    def test_no_digits(self):
        for row in NO_DIGITS + ((0,) * 401, (False,), (0, False), [0]):
            self.fails(BadDigits, row, is_cyclic, 10, row)


class CyclicDenominators(Case):
    def test_told_ones(self):
        self.same(cyclic_denominators(10, 400), CYCLIC_IN_TEN)
        self.same(cyclic_denominators(10, 389), CYCLIC_IN_TEN)
        self.same(cyclic_denominators(10, 388), CYCLIC_IN_TEN[:-1])
        self.same(cyclic_denominators(10, 7), (7,))
        self.same(cyclic_denominators(10, 6), ())
        self.same(cyclic_denominators(2, 30), (3, 5, 11, 13, 19, 29))
        self.same(cyclic_denominators(12, 60), (5, 7, 17, 31, 41, 43, 53))

    def test_least_bounds(self):
        for base in range(2, 1001):
            self.same(cyclic_denominators(base, 1), ())
            self.same(cyclic_denominators(base, 2), ())
            # Digits of size 2 are cyclic if 3 is a prime with the period 2.
            self.same(cyclic_denominators(base, 3), (3,) if base % 3 == 2 else ())

    def test_against_all_digits(self):
        for base, most in ((2, 13), (3, 8), (4, 6), (5, 6), (6, 5), (7, 5), (10, 5), (11, 4), (50, 3)):
            rows = all_digits(base, most - 1)
            sizes = {len(row) for row in rows if plain.is_cyclic(base, row)}
            for bound in range(1, most + 1):
                expected = tuple(sorted([size + 1 for size in sizes if size + 1 <= bound]))
                self.same(cyclic_denominators(base, bound), expected)

    def test_against_the_periods_of_primes(self):
        primes = [number for number in range(3, 401) if plain.is_prime(number)]
        for base in plain.BASES:
            full = [prime for prime in primes if plain.period(base, prime) == prime - 1]
            for most in (1, 2, 3, 4, 5, 6, 7, 50, 100, 397, 399, 400):
                self.same(cyclic_denominators(base, most), tuple([prime for prime in full if prime <= most]))

    def test_squares_have_only_three_at_most(self):
        for root in (2, 3, 4, 10, 31):
            self.same(cyclic_denominators(root * root, 400), ())

    def test_bounds_beyond(self):
        for most in (0, -1, -400, 401, 402, 5000, HUGE, -HUGE):
            self.fails(BadNumber, most, cyclic_denominators, 10, most)
        for most in NO_INTEGERS:
            self.fails(BadNumber, most, cyclic_denominators, 10, most)


if __name__ == "__main__":
    unittest.main()
