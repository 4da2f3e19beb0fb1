"""Point 11 and wheelnines/residues.py: the periods of one denominator in all bases."""

import unittest
from math import gcd

from tests import plain
from tests.case import FAR_INTEGERS, NO_INTEGERS, Case
from wheelnines.errors import BadDenominator, BadNumber
from wheelnines.numbers import period
from wheelnines.residues import bases_with, greatest_period, residues_with, spread

# Primes, powers of 2 and of others, products, 3,960, the greatest ones.
GREAT = (499, 997, 1001, 1024, 2187, 3125, 3960, 4096, 4620, 4913, 4998, 4999, 5000)


def counted(lengths):
    values = list(lengths.values())
    return tuple([(length, values.count(length)) for length in sorted(set(values))])


class Told(Case):
    def test_residues_with(self):
        self.same(residues_with(7, 1), (1,))
        self.same(residues_with(7, 2), (6,))
        self.same(residues_with(7, 3), (2, 4))
        self.same(residues_with(7, 6), (3, 5))
        self.same(residues_with(8, 2), (3, 5, 7))
        self.same(residues_with(9, 6), (2, 5))
        self.same(residues_with(12, 2), (5, 7, 11))

    def test_one_and_two(self):
        self.same(residues_with(1, 1), (0,))
        self.same(residues_with(2, 1), (1,))
        for denominator in (1, 2):
            self.same(spread(denominator), ((1, 1),))
            self.same(greatest_period(denominator), 1)
            for length in (2, 3, 5000):
                self.same(residues_with(denominator, length), ())
                self.same(bases_with(denominator, length), ())
        self.same(bases_with(1, 1), tuple(range(2, 1001)))
        self.same(bases_with(2, 1), tuple(range(3, 1001, 2)))

    def test_lengths_that_do_not_occur(self):
        for denominator, lengths in ((7, (4, 5, 7, 12)), (8, (3, 4, 8)), (4999, (5, 4999, 5000)), (3960, (7, 120))):
            for length in lengths:
                self.same(residues_with(denominator, length), ())
                self.same(bases_with(denominator, length), ())

    def test_spread(self):
        self.same(spread(7), ((1, 1), (2, 1), (3, 2), (6, 2)))
        self.same(spread(8), ((1, 1), (2, 3)))
        self.same(spread(9), ((1, 1), (2, 1), (3, 2), (6, 2)))
        self.same(spread(13), ((1, 1), (2, 1), (3, 2), (4, 2), (6, 2), (12, 4)))

    def test_greatest_period(self):
        rows = ((7, 6), (8, 2), (9, 6), (15, 4), (16, 4), (97, 96), (3960, 60), (4999, 4998), (5000, 500))
        for denominator, length in rows:
            self.same(greatest_period(denominator), length)

    def test_bases_with(self):
        self.same(bases_with(7, 6)[:6], (3, 5, 10, 12, 17, 19))
        self.same(bases_with(7, 1)[:3], (8, 15, 22))
        self.same(bases_with(7, 1)[-1], 995)
        self.same(bases_with(999, 3)[:1], (10,))
        self.same(bases_with(4999, 1), ())
        self.same(bases_with(999, 1), (1000,))
        self.same(bases_with(1001, 2)[-1], 1000)


class AgainstPowers(Case):
    def check(self, denominator, lengths_looked_at):
        lengths = plain.lengths(denominator)
        self.same(spread(denominator), counted(lengths))
        self.same(greatest_period(denominator), max(lengths.values()))
        for length in lengths_looked_at:
            expected = tuple([residue for residue in sorted(lengths) if lengths[residue] == length])
            self.same(residues_with(denominator, length), expected)

    def test_small_denominators(self):
        for denominator in range(1, 151):
            self.check(denominator, range(1, denominator + 3))

    def test_great_denominators(self):
        for denominator in GREAT:
            total = len(plain.numerators(denominator))
            divisors = [length for length in range(1, total + 1) if total % length == 0]
            self.check(denominator, divisors + [7, 11, 4999, 5000])

    def test_the_lengths_are_the_divisors_of_the_greatest_one(self):
        for denominator in list(range(1, 200)) + list(GREAT):
            greatest = greatest_period(denominator)
            found = [length for length, _ in spread(denominator)]
            self.assertEqual(found, [length for length in range(1, greatest + 1) if greatest % length == 0])

    def test_all_residues_have_one_length(self):
        for denominator in (1, 2, 36, 360, 2310):
            rows = [residues_with(denominator, length) for length, _ in spread(denominator)]
            self.assertEqual(sorted([item for row in rows for item in row]), plain.numerators(denominator))


class AgainstPeriods(Case):
    def test_each_base(self):
        for denominator in list(range(1, 31)) + [49, 81, 97, 128, 360, 499, 625, 1000, 1001, 3960, 4096]:
            periods = {}
            for base in range(2, 1001):
                if gcd(base, denominator) == 1:
                    periods.setdefault(plain.quick_period(base, denominator), []).append(base)
            for length in list(periods) + [max(periods) + 1, 5000]:
                self.same(bases_with(denominator, length), tuple(periods.get(length, [])))

    def test_greatest_denominators(self):
        for denominator in (4999, 5000):
            bases = [base for base in range(2, 1001) if gcd(base, denominator) == 1]
            periods = {base: period(base, denominator) for base in bases[::7] + bases[-3:]}
            for length in sorted(set(periods.values())):
                told = bases_with(denominator, length)
                for base, found in periods.items():
                    self.assertEqual(base in told, found == length)


class WrongArguments(Case):
    def test_denominators(self):
        for value in NO_INTEGERS + FAR_INTEGERS + (0, 5001, 10000):
            self.fails(BadDenominator, value, residues_with, value, 1)
            self.fails(BadDenominator, value, spread, value)
            self.fails(BadDenominator, value, greatest_period, value)
            self.fails(BadDenominator, value, bases_with, value, 1)
            self.fails(BadDenominator, value, bases_with, value, 0)

    def test_lengths(self):
        for value in NO_INTEGERS + FAR_INTEGERS + (0, 5001, 10000):
            for denominator in (1, 7, 5000):
                self.fails(BadNumber, value, residues_with, denominator, value)
                self.fails(BadNumber, value, bases_with, denominator, value)

    def test_bounds(self):
        self.same(residues_with(5000, 5000), ())
        self.same(residues_with(5000, 1), (1,))
        self.same(len(residues_with(4999, 4998)), 1344)


if __name__ == "__main__":
    unittest.main()
