"""Point 14 and wheelnines/counts.py: how often digits occur."""

import unittest
from math import gcd

from tests import plain
from tests.case import FAR_INTEGERS, NO_INTEGERS, Case
from wheelnines.counts import all_counts, digit_counts, digit_sum
from wheelnines.errors import BadBase, BadDenominator, BadFraction
from wheelnines.numbers import period

GREAT = (361, 1001, 2187, 4096, 4913, 4998, 4999, 5000)
NO_FRACTIONS = ((2, 4), (7, 7), (0, 7), (1, 5001), (True, 7), (0, True), [1, 7], "1/7", 7, None, (1,), (1, 7, 1))


class DigitSum(Case):
    def test_told_ones(self):
        for base, fraction, told in (
            (10, (1, 7), 27),
            (10, (1, 13), 27),
            (10, (2, 13), 27),
            (10, (1, 3), 3),
            (10, (2, 3), 6),
            (10, (1, 27), 10),
            (10, (1, 81), 37),
            (10, (0, 1), 0),
            (2, (1, 3), 1),
            (2, (1, 7), 1),
            (2, (3, 7), 2),
            (1000, (1, 999), 1),
        ):
            self.same(digit_sum(base, fraction), told)

    def test_against_the_digits(self):
        for base in plain.BASES:
            for fraction in plain.fractions_up_to(60):
                if gcd(base, fraction[1]) == 1:
                    self.same(digit_sum(base, fraction), sum(plain.expansion(base, fraction)[1]))
                else:
                    self.fails(BadFraction, fraction, digit_sum, base, fraction)

    def test_great_denominators(self):
        for base in (2, 3, 10, 997, 1000):
            for denominator in GREAT:
                if gcd(base, denominator) == 1:
                    for fraction in ((1, denominator), (denominator - 1, denominator)):
                        self.same(digit_sum(base, fraction), sum(plain.expansion(base, fraction)[1]))

    def test_it_is_told_by_the_wheel(self):
        for base in (2, 7, 10, 1000):
            for fraction in plain.fractions_up_to(50):
                if gcd(base, fraction[1]) == 1:
                    total = (base - 1) * sum(plain.wheel(base, fraction))
                    self.same(digit_sum(base, fraction) * fraction[1], total)


class DigitCounts(Case):
    def test_told_ones(self):
        self.same(digit_counts(10, (1, 7)), ((1, 1), (2, 1), (4, 1), (5, 1), (7, 1), (8, 1)))
        self.same(digit_counts(10, (1, 3)), ((3, 1),))
        self.same(digit_counts(10, (0, 1)), ((0, 1),))
        self.same(digit_counts(10, (1, 11)), ((0, 1), (9, 1)))
        self.same(digit_counts(10, (1, 41)), ((0, 1), (2, 1), (3, 1), (4, 1), (9, 1)))
        self.same(digit_counts(10, (1, 101)), ((0, 2), (9, 2)))
        self.same(digit_counts(2, (1, 7)), ((0, 2), (1, 1)))

    def test_against_the_digits(self):
        for base in plain.BASES:
            for fraction in plain.fractions_up_to(60):
                if gcd(base, fraction[1]) == 1:
                    self.same(digit_counts(base, fraction), plain.counted(plain.expansion(base, fraction)[1]))
                else:
                    self.fails(BadFraction, fraction, digit_counts, base, fraction)

    def test_great_denominators(self):
        for base in (2, 3, 10, 1000):
            for denominator in GREAT:
                if gcd(base, denominator) == 1:
                    for fraction in ((1, denominator), (denominator - 1, denominator)):
                        self.same(digit_counts(base, fraction), plain.counted(plain.expansion(base, fraction)[1]))

    def test_primes_with_the_greatest_period(self):
        # Of two digits one occurs at most once more often than the other.
        for base in (2, 3, 10, 12):
            for denominator in range(3, 400):
                if gcd(base, denominator) == 1 and period(base, denominator) == denominator - 1:
                    found = dict(digit_counts(base, (1, denominator)))
                    often = [found.get(digit, 0) for digit in range(base)]
                    self.assertLessEqual(max(often) - min(often), 1)


class AllCounts(Case):
    def test_told_ones(self):
        self.same(all_counts(10, 1), ((0, 1),))
        self.same(all_counts(10, 3), ((3, 1), (6, 1)))
        self.same(all_counts(10, 7), ((1, 1), (2, 1), (4, 1), (5, 1), (7, 1), (8, 1)))
        self.same(all_counts(10, 9), ((1, 1), (2, 1), (4, 1), (5, 1), (7, 1), (8, 1)))
        self.same(all_counts(2, 7), ((0, 3), (1, 3)))

    def test_against_all_wheels(self):
        for base in plain.BASES:
            for denominator in list(range(1, 80)) + [361, 1001]:
                if gcd(base, denominator) != 1:
                    self.fails(BadDenominator, denominator, all_counts, base, denominator)
                    continue
                digits = []
                for numerator in plain.wheels(base, denominator):
                    digits.extend(plain.expansion(base, (numerator, denominator))[1])
                self.same(all_counts(base, denominator), plain.counted(digits))

    def test_great_denominators(self):
        for base, denominator in ((10, 4999), (2, 4093), (999, 5000), (3, 4096), (1000, 4997)):
            digits = []
            left = set(plain.numerators(denominator))
            while left:
                row = plain.wheel(base, (min(left), denominator))
                digits.extend([base * rest // denominator for rest in row])
                left -= set(row)
            self.same(all_counts(base, denominator), plain.counted(digits))

    def test_bases_beside_one_wheel(self):
        for base in (3, 10, 12):
            for denominator in (7, 17, 19, 29, 31):
                if period(base, denominator) == denominator - 1:
                    self.same(all_counts(base, denominator), digit_counts(base, (1, denominator)))


class WrongArguments(Case):
    def test_bases(self):
        for value in NO_INTEGERS + FAR_INTEGERS + (0, 1, 1001):
            self.fails(BadBase, value, digit_sum, value, None)
            self.fails(BadBase, value, digit_counts, value, (1, 7))
            self.fails(BadBase, value, all_counts, value, 0)

    def test_fractions(self):
        for value in NO_FRACTIONS + ((1, 2), (1, 5), (3, 10), (1, 14), (1, 5000)):
            self.fails(BadFraction, value, digit_sum, 10, value)
            self.fails(BadFraction, value, digit_counts, 10, value)

    def test_denominators(self):
        for value in NO_INTEGERS + FAR_INTEGERS + (0, 5001, 2, 5, 14, 35, 5000):
            self.fails(BadDenominator, value, all_counts, 10, value)


if __name__ == "__main__":
    unittest.main()
