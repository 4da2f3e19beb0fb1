"""Points 5 and 6 and wheelnines/pieces.py: pieces, quotients, cuts."""

import unittest
from math import gcd

from tests import plain
from tests.case import FAR_INTEGERS, NO_INTEGERS, Case
from wheelnines.errors import BadDenominator, BadFraction, BadNumber, Nothing
from wheelnines.pieces import cuts, is_balanced, least_cuts, pieces, quotient, quotients

MOST = 52
GREAT_ROWS = ((10, 4999), (10, 4993), (2, 4995), (7, 4999), (31, 2310 + 1), (1000, 4999), (999, 5000), (10, 4901))


def pure_denominators(base, most):
    return [number for number in range(1, most + 1) if gcd(base, number) == 1]


def cut_rows(most):
    """All triples of a base, a pure denominator and a cut."""
    return [
        (base, denominator, cut)
        for base in plain.BASES
        for denominator in pure_denominators(base, most)
        for cut in plain.all_cuts(base, denominator)
    ]


class Pieces(Case):
    def test_told_ones(self):
        self.same(pieces(10, (1, 7), 2), (142, 857))
        self.same(pieces(10, (1, 7), 3), (14, 28, 57))
        self.same(pieces(10, (1, 7), 6), (1, 4, 2, 8, 5, 7))
        self.same(pieces(10, (2, 7), 2), (285, 714))
        self.same(pieces(10, (1, 11), 2), (0, 9))
        self.same(pieces(10, (1, 101), 2), (0, 99))
        self.same(pieces(10, (1, 21), 2), (47, 619))
        self.same(pieces(10, (1, 21), 3), (4, 76, 19))
        self.same(pieces(2, (1, 3), 2), (0, 1))
        self.same(pieces(1000, (1, 7), 2), (142, 857))

    def test_against_the_plain_ones(self):
        for base, denominator, cut in cut_rows(MOST):
            for number in plain.numerators(denominator):
                expected = plain.pieces(base, (number, denominator), cut)
                self.same(pieces(base, (number, denominator), cut), expected)

    def test_pieces_with_many_digits(self):
        for base, denominator in ((10, 4999), (1000, 4999), (7, 4999)):
            size = plain.period(base, denominator)
            for cut in plain.divisors_from_two(size):
                expected = plain.pieces(base, (1234, denominator), cut)
                self.same(pieces(base, (1234, denominator), cut), expected)

    def test_the_sum_of_the_pieces(self):
        for base, denominator, cut in cut_rows(40):
            size = plain.period(base, denominator) // cut
            for number in plain.numerators(denominator):
                rests = [number * pow(base, size * at, denominator) % denominator for at in range(cut)]
                total = sum(pieces(base, (number, denominator), cut))
                self.assertEqual(denominator * total, (base ** size - 1) * sum(rests))


class Quotient(Case):
    def test_told_ones(self):
        self.same(quotient(10, (1, 7), 2), 1)
        self.same(quotient(10, (1, 7), 3), 1)
        self.same(quotient(10, (6, 7), 3), 2)
        self.same(quotient(10, (1, 7), 6), 3)
        self.same(quotient(10, (1, 21), 2), None)
        self.same(quotient(10, (1, 21), 3), 1)
        self.same(quotient(10, (2, 21), 2), None)
        self.same(quotient(10, (2, 21), 6), 3)
        self.same(quotient(2, (1, 7), 3), 1)
        self.same(quotient(2, (3, 7), 3), 2)

    def test_against_the_plain_ones(self):
        met = {True: 0, False: 0}
        for base, denominator, cut in cut_rows(MOST):
            for number in plain.numerators(denominator):
                expected = plain.quotient(base, (number, denominator), cut)
                self.same(quotient(base, (number, denominator), cut), expected)
                met[expected is None] += 1
        self.assertGreater(min(met.values()), 1000)

    def test_bounds_and_sums(self):
        for base, denominator, cut in cut_rows(40):
            if is_balanced(base, denominator, cut):
                for number in plain.numerators(denominator):
                    one = quotient(base, (number, denominator), cut)
                    other = quotient(base, (denominator - number, denominator), cut)
                    self.assertTrue(1 <= one <= cut - 1)
                    self.assertEqual(one + other, cut)

    def test_great_denominators(self):
        for base, denominator in GREAT_ROWS:
            for cut in plain.all_cuts(base, denominator):
                for number in (1, denominator - 1):
                    expected = plain.quotient(base, (number, denominator), cut)
                    self.same(quotient(base, (number, denominator), cut), expected)


class IsBalanced(Case):
    def test_told_ones(self):
        self.same(is_balanced(10, 7, 2), True)
        self.same(is_balanced(10, 7, 3), True)
        self.same(is_balanced(10, 7, 6), True)
        self.same(is_balanced(10, 21, 2), False)
        self.same(is_balanced(10, 21, 3), True)
        self.same(is_balanced(10, 21, 6), True)
        self.same(is_balanced(10, 63, 2), False)
        self.same(is_balanced(3, 8, 2), False)
        self.same(is_balanced(3, 4, 2), True)

    def test_all_fractions_or_none(self):
        met = {True: 0, False: 0}
        for base, denominator, cut in cut_rows(MOST):
            told = is_balanced(base, denominator, cut)
            met[told] += 1
            for number in plain.numerators(denominator):
                self.same(plain.quotient(base, (number, denominator), cut) is not None, told)
        self.assertGreater(min(met.values()), 100)

    def test_it_divides_the_sum_of_powers(self):
        for base, denominator, cut in cut_rows(150):
            expected = plain.power_sum(base, denominator, cut) % denominator == 0
            self.same(is_balanced(base, denominator, cut), expected)

    def test_the_rule_of_primes(self):
        for base, denominator, cut in cut_rows(150):
            size = plain.period(base, denominator) // cut
            holds = True
            for prime, _, power in plain.prime_powers(denominator):
                if (base ** size - 1) % prime == 0:
                    if prime == 2 and (base ** size - 1) % 4 != 0:
                        holds = holds and cut % 2 == 0 and (base ** size + 1) * cut // 2 % power == 0
                    else:
                        holds = holds and cut % power == 0
            self.same(is_balanced(base, denominator, cut), holds)

    def test_primes_are_balanced_by_each_cut(self):
        for base in plain.BASES:
            for denominator in pure_denominators(base, 200):
                if plain.is_prime(denominator):
                    for cut in plain.all_cuts(base, denominator):
                        self.same(is_balanced(base, denominator, cut), True)

    def test_multiples_of_a_cut(self):
        for base, denominator, cut in cut_rows(120):
            if is_balanced(base, denominator, cut):
                for other in plain.all_cuts(base, denominator):
                    if other % cut == 0:
                        self.same(is_balanced(base, denominator, other), True)

    def test_great_denominators(self):
        for base, denominator in GREAT_ROWS:
            for cut in plain.all_cuts(base, denominator):
                expected = plain.quotient(base, (1, denominator), cut) is not None
                self.same(is_balanced(base, denominator, cut), expected)


class Cuts(Case):
    def test_told_ones(self):
        self.same(cuts(10, 7), (2, 3, 6))
        self.same(cuts(10, 21), (3, 6))
        self.same(cuts(10, 3), ())
        self.same(cuts(10, 9), ())
        self.same(cuts(10, 11), (2,))
        self.same(cuts(10, 13), (2, 3, 6))
        self.same(cuts(3, 14), (2, 6))
        self.same(least_cuts(10, 7), (2, 3))
        self.same(least_cuts(10, 21), (3,))
        self.same(least_cuts(10, 3), ())
        self.same(least_cuts(10, 17), (2,))

    def test_none_for_one(self):
        for base in (2, 3, 10, 999, 1000):
            self.same(cuts(base, 1), ())
            self.same(least_cuts(base, 1), ())

    def test_against_the_plain_ones(self):
        for base in plain.BASES:
            for denominator in pure_denominators(base, 150):
                self.check(base, denominator)

    def test_great_denominators(self):
        for base, denominator in GREAT_ROWS + ((2, 4095), (2, 4681), (10, 4991), (3, 4096), (11, 2520), (11, 4999)):
            if gcd(base, denominator) == 1:
                self.check(base, denominator)

    def check(self, base, denominator):
        expected = [
            cut
            for cut in plain.all_cuts(base, denominator)
            if plain.power_sum(base, denominator, cut) % denominator == 0
        ]
        self.same(cuts(base, denominator), tuple(expected))
        least = [cut for cut in expected if not [one for one in expected if one != cut and cut % one == 0]]
        self.same(least_cuts(base, denominator), tuple(least))

    def test_least_cuts_that_are_no_primes(self):
        met = [
            (base, denominator)
            for base in plain.BASES
            for denominator in pure_denominators(base, 150)
            if not all([plain.is_prime(cut) for cut in least_cuts(base, denominator)])
        ]
        self.assertGreater(len(met), 10)


class Quotients(Case):
    def test_told_ones(self):
        self.same(quotients(10, 7, 2), ((1, 6),))
        self.same(quotients(10, 7, 3), ((1, 3), (2, 3)))
        self.same(quotients(10, 7, 6), ((3, 6),))
        self.same(quotients(2, 7, 3), ((1, 3), (2, 3)))
        self.same(quotients(10, 21, 3), ((1, 6), (2, 6)))

    def test_nothing_if_not_balanced(self):
        self.fails(Nothing, 2, quotients, 10, 21, 2)
        self.fails(Nothing, 2, quotients, 10, 63, 2)

    def test_against_the_plain_ones(self):
        met = {True: 0, False: 0}
        for base, denominator, cut in cut_rows(MOST):
            found = [plain.quotient(base, (number, denominator), cut) for number in plain.numerators(denominator)]
            met[None in found] += 1
            if None in found:
                self.fails(Nothing, cut, quotients, base, denominator, cut)
            else:
                expected = [(one, found.count(one)) for one in sorted(set(found))]
                self.same(quotients(base, denominator, cut), tuple(expected))
        self.assertGreater(min(met.values()), 100)

    def test_great_denominators(self):
        for base, denominator in ((10, 4999), (2, 4095), (1000, 4999), (3, 4913)):
            for cut in plain.all_cuts(base, denominator):
                if plain.power_sum(base, denominator, cut) % denominator != 0:
                    self.fails(Nothing, cut, quotients, base, denominator, cut)
                else:
                    self.check_great(base, denominator, cut)

    def check_great(self, base, denominator, cut):
        size = plain.period(base, denominator) // cut
        steps = [pow(base, size * at, denominator) for at in range(cut)]
        found = {}
        for number in plain.numerators(denominator)[::1 if cut < 60 else 40]:
            one = sum([number * step % denominator for step in steps]) // denominator
            found[one] = found.get(one, 0) + 1
        told = dict(quotients(base, denominator, cut))
        self.assertEqual(list(told), sorted(told))
        self.assertEqual(sum(told.values()), len(plain.numerators(denominator)))
        for one, many in found.items():
            if cut < 60:
                self.assertEqual(told[one], many)
            self.assertLessEqual(many, told[one])
        if cut < 60:
            self.assertEqual(sorted(found), list(told))


class WrongOnes(Case):
    def test_denominators_that_are_not_pure(self):
        for base in plain.BASES:
            for denominator in list(range(1, 60)) + [4998, 5000]:
                if gcd(base, denominator) != 1:
                    for function in (cuts, least_cuts):
                        self.fails(BadDenominator, denominator, function, base, denominator)
                    for function in (is_balanced, quotients):
                        for cut in (1, 2, 3, None):
                            self.fails(BadDenominator, denominator, function, base, denominator, cut)
                    for function in (pieces, quotient):
                        for cut in (1, 2, 3, None):
                            self.fails(BadFraction, (1, denominator), function, base, (1, denominator), cut)

    def test_one_has_no_cut(self):
        for base in (2, 10, 1000):
            for cut in (-1, 0, 1, 2, 3, 6, None, True, (2,)):
                self.fails(BadNumber, cut, is_balanced, base, 1, cut)
                self.fails(BadNumber, cut, quotients, base, 1, cut)
                self.fails(BadNumber, cut, pieces, base, (0, 1), cut)
                self.fails(BadNumber, cut, quotient, base, (0, 1), cut)

    def test_numbers_that_are_no_cut(self):
        for base in plain.BASES:
            for denominator in pure_denominators(base, 40):
                fraction = (1, denominator) if denominator > 1 else (0, 1)
                good = plain.all_cuts(base, denominator)
                for cut in range(-3, 50):
                    if cut not in good:
                        self.fails(BadNumber, cut, is_balanced, base, denominator, cut)
                        self.fails(BadNumber, cut, quotients, base, denominator, cut)
                        self.fails(BadNumber, cut, pieces, base, fraction, cut)
                        self.fails(BadNumber, cut, quotient, base, fraction, cut)

    def test_cuts_of_other_kinds(self):
        for cut in NO_INTEGERS + FAR_INTEGERS:
            for function, subject in ((is_balanced, 13), (quotients, 13), (pieces, (3, 13)), (quotient, (3, 13))):
                self.fails(BadNumber, cut, function, 10, subject, cut)


if __name__ == "__main__":
    unittest.main()
