"""Points 2 and 4 and wheelnines/numbers.py: bases, denominators, fractions, periods."""

import unittest
from fractions import Fraction
from math import gcd

from tests import plain
from tests.case import FAR_INTEGERS, HUGE, NO_INTEGERS, Case
from wheelnines.errors import BadBase, BadDenominator, BadFraction, BadNumber
from wheelnines.numbers import (
    head_size,
    need_base,
    need_denominator,
    need_fraction,
    period,
    pure_part,
    reduced,
)


class NeedBase(Case):
    def test_bounds(self):
        for value in (2, 3, 10, 999, 1000):
            self.assertIs(need_base(value), value)
        for value in (1, 0, -1, -2, 1001, 1002):
            self.fails(BadBase, value, need_base, value)

    def test_every_base(self):
        for value in range(-20, 1100):
            if 2 <= value <= 1000:
                self.same(need_base(value), value)
            else:
                self.fails(BadBase, value, need_base, value)

    def test_other_kinds(self):
        for value in NO_INTEGERS + FAR_INTEGERS:
            self.fails(BadBase, value, need_base, value)


class NeedDenominator(Case):
    def test_bounds(self):
        for value in (1, 2, 4999, 5000):
            self.assertIs(need_denominator(value), value)
        for value in (0, -1, -5000, 5001, 5002):
            self.fails(BadDenominator, value, need_denominator, value)

    def test_every_denominator(self):
        for value in range(-20, 5100):
            if 1 <= value <= 5000:
                self.same(need_denominator(value), value)
            else:
                self.fails(BadDenominator, value, need_denominator, value)

    def test_other_kinds(self):
        for value in NO_INTEGERS + FAR_INTEGERS:
            self.fails(BadDenominator, value, need_denominator, value)


class NeedFraction(Case):
    def check(self, numerator, denominator):
        value = (numerator, denominator)
        if 1 <= denominator <= 5000 and 0 <= numerator < denominator and gcd(numerator, denominator) == 1:
            self.assertIs(need_fraction(value), value)
        else:
            self.fails(BadFraction, value, need_fraction, value)

    def test_all_small_pairs(self):
        for denominator in range(-3, 61):
            for numerator in range(-4, 64):
                self.check(numerator, denominator)

    def test_great_denominators(self):
        for denominator in (4998, 4999, 5000, 5001):
            for numerator in list(range(-2, 20)) + list(range(denominator - 20, denominator + 3)):
                self.check(numerator, denominator)

    def test_numerators_at_the_bounds(self):
        self.same(need_fraction((0, 1)), (0, 1))
        self.same(need_fraction((1, 2)), (1, 2))
        for denominator in (2, 3, 7, 10, 4999, 5000):
            self.same(need_fraction((1, denominator)), (1, denominator))
            self.same(need_fraction((denominator - 1, denominator)), (denominator - 1, denominator))
            for numerator in (-1, 0, denominator, denominator + 1):
                self.fails(BadFraction, (numerator, denominator), need_fraction, (numerator, denominator))

    def test_the_only_zero(self):
        for denominator in range(2, 5001):
            self.fails(BadFraction, (0, denominator), need_fraction, (0, denominator))
        self.same(need_fraction((0, 1)), (0, 1))
        self.fails(BadFraction, (1, 1), need_fraction, (1, 1))

    def test_true_and_false_are_no_integers(self):
        for value in ((True, 7), (1, True), (False, 1), (0, True), (False, True)):
            self.fails(BadFraction, value, need_fraction, value)


class Reduced(Case):
    def test_told_ones(self):
        self.same(reduced(1, 7), (1, 7))
        self.same(reduced(3, 6), (1, 2))
        self.same(reduced(-1, 7), (6, 7))
        self.same(reduced(-6, 21), (5, 7))
        self.same(reduced(50, 7), (1, 7))

    def test_integers_give_zero(self):
        for denominator in (1, 2, 7, 12, 4999, 5000):
            for many in (-3, -1, 0, 1, 2, HUGE, -HUGE):
                self.same(reduced(many * denominator, denominator), (0, 1))
        for numerator in (-5, 0, 5, 10 ** 1000):
            self.same(reduced(numerator, 1), (0, 1))

    def test_against_fractions(self):
        for denominator in list(range(1, 41)) + [360, 4096, 4999, 5000]:
            for numerator in list(range(-130, 131)) + [HUGE, -HUGE, 10 ** 40, -(7 ** 90), 5000, -5000]:
                part = Fraction(numerator, denominator) % 1
                told = reduced(numerator, denominator)
                self.same(told, (part.numerator, part.denominator))
                self.assertIs(need_fraction(told), told)

    def test_wrong_ones(self):
        for numerator in NO_INTEGERS:
            self.fails(BadNumber, numerator, reduced, numerator, 7)
            self.fails(BadNumber, numerator, reduced, numerator, 0)
        for denominator in NO_INTEGERS + FAR_INTEGERS + (0, 5001):
            self.fails(BadDenominator, denominator, reduced, 3, denominator)


class PurePart(Case):
    def test_told_ones(self):
        self.same(pure_part(10, 28), 7)
        self.same(pure_part(10, 7), 7)
        self.same(pure_part(10, 5000), 1)
        self.same(pure_part(6, 5000), 625)
        self.same(pure_part(2, 4096), 1)
        self.same(pure_part(1000, 4998), 2499)
        self.same(pure_part(30, 1), 1)

    def test_against_the_plain_one(self):
        for base in plain.BASES:
            for denominator in list(range(1, 261)) + [2187, 3125, 4096, 4620, 4998, 4999, 5000]:
                self.same(pure_part(base, denominator), plain.pure_part(base, denominator))

    def test_many_bases(self):
        for base in range(2, 1001):
            for denominator in (1, 60, 4620, 5000):
                told = pure_part(base, denominator)
                rest = denominator // told
                self.assertEqual(told * rest, denominator)
                self.assertEqual(gcd(told, base), 1)
                # What is left over has no prime but those of the base.
                self.assertEqual(base ** 13 % rest, 0)


class Period(Case):
    def test_told_ones(self):
        for base, denominator, size in (
            (10, 1, 1),
            (10, 2, 1),
            (10, 3, 1),
            (10, 7, 6),
            (10, 11, 2),
            (10, 13, 6),
            (10, 14, 6),
            (10, 17, 16),
            (10, 28, 6),
            (10, 49, 42),
            (10, 5000, 1),
            (2, 7, 3),
            (1000, 7, 2),
            (1000, 4999, plain.period(1000, 4999)),
        ):
            self.same(period(base, denominator), size)

    def test_one_and_the_base(self):
        for base in range(2, 1001):
            self.same(period(base, 1), 1)
            self.same(period(base, base), 1)
            self.same(period(base, base - 1), 1)
            self.same(period(base, base + 1), 2)

    def test_against_the_plain_one(self):
        for base in plain.BASES:
            for denominator in list(range(1, 261)) + [2187, 3125, 4096, 4913, 4998, 4999, 5000]:
                self.same(period(base, denominator), plain.period(base, denominator))

    def test_all_bases_with_some_denominators(self):
        for base in range(2, 1001):
            for denominator in (1, 12, 77, 100, 343):
                self.same(period(base, denominator), plain.period(base, denominator))

    def test_the_period_divides_the_number_of_residues(self):
        for base in plain.BASES:
            for denominator in range(1, 161):
                pure = plain.pure_part(base, denominator)
                residues = [number for number in range(1, pure + 1) if gcd(number, pure) == 1]
                self.assertEqual(len(residues) % period(base, denominator), 0)


class HeadSize(Case):
    def test_told_ones(self):
        for base, denominator, size in (
            (10, 1, 0),
            (10, 7, 0),
            (10, 2, 1),
            (10, 28, 2),
            (10, 12, 2),
            (10, 5000, 4),
            (10, 4096, 12),
            (2, 4096, 12),
            (4, 4096, 6),
            (8, 2048, 4),
            (6, 4374, 7),
            (1000, 5000, 2),
            (12, 5000, 2),
        ):
            self.same(head_size(base, denominator), size)

    def test_against_the_plain_one(self):
        for base in plain.BASES:
            for denominator in list(range(1, 261)) + [2187, 3125, 4096, 4374, 4998, 4999, 5000]:
                head, repetend = plain.expansion(base, (1, denominator) if denominator > 1 else (0, 1))
                self.same(head_size(base, denominator), len(head))
                self.same(period(base, denominator), len(repetend))

    def test_empty_exactly_if_pure(self):
        for base in plain.BASES:
            for denominator in range(1, 400):
                self.assertEqual(head_size(base, denominator) == 0, gcd(base, denominator) == 1)


class AllDenominators(Case):
    def test_sizes_in_base_ten_and_twelve(self):
        for base in (10, 12):
            for denominator in range(1, 5001):
                pure = pure_part(base, denominator)
                head = head_size(base, denominator)
                size = period(base, denominator)
                self.assertEqual(denominator % pure, 0)
                self.assertEqual(gcd(pure, base), 1)
                self.assertEqual(base ** head % (denominator // pure), 0)
                self.assertTrue(head == 0 or base ** (head - 1) % (denominator // pure) != 0)
                self.assertEqual(pow(base, size, pure), 1 % pure)
                for number in range(2, size + 1):
                    if size % number == 0:
                        self.assertNotEqual(pow(base, size // number, pure), 1 % pure)


if __name__ == "__main__":
    unittest.main()
