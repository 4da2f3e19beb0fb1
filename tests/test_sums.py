"""Point 13 and wheelnines/sums.py: sums of two fractions, and the denominators that they have."""

import unittest

from tests import plain
from tests.case import ANY_VALUES, FAR_INTEGERS, NO_INTEGERS, Case
from wheelnines.errors import BadBase, BadDenominator, BadFraction, Nothing, TooGreat
from wheelnines.numbers import need_fraction, period
from wheelnines.sums import sum_denominators, sum_example, sum_of, sum_periods

SOME = (
    (1, 1), (1, 7), (12, 18), (36, 48), (60, 90), (72, 72), (64, 64), (81, 81), (50, 100), (30, 70),
    (96, 36), (128, 64),
)
BEYOND = ((71, 73), (5000, 3), (4999, 5000), (4999, 2), (3003, 6), (64, 81), (4096, 3125), (2, 2501), (4998, 2500))


class SumOf(Case):
    def test_told_ones(self):
        for one, two, total in (
            ((1, 7), (2, 7), (3, 7)),
            ((1, 7), (6, 7), (0, 1)),
            ((5, 7), (6, 7), (4, 7)),
            ((1, 2), (1, 2), (0, 1)),
            ((1, 2), (1, 3), (5, 6)),
            ((1, 6), (1, 10), (4, 15)),
            ((0, 1), (0, 1), (0, 1)),
            ((0, 1), (4999, 5000), (4999, 5000)),
            ((4999, 5000), (4999, 5000), (2499, 2500)),
            ((1, 70), (1, 71), (141, 4970)),
        ):
            self.same(sum_of(one, two), total)
            self.same(sum_of(two, one), total)

    def test_against_the_plain_ones(self):
        rows = plain.fractions_up_to(15) + [(1, 70), (69, 70), (1, 71), (35, 72), (4999, 5000), (1, 4999), (2500, 4999)]
        for one in rows:
            for two in rows:
                total = plain.sum_of(one, two)
                if total[1] > 5000:
                    self.fails(TooGreat, 5000, sum_of, one, two)
                else:
                    self.same(sum_of(one, two), total)
                    self.same(need_fraction(total), total)

    def test_at_the_limit(self):
        self.same(sum_of((1, 8), (1, 625)), (633, 5000))
        self.same(sum_of((1, 2), (1, 2499)), (2501, 4998))
        self.fails(TooGreat, 5000, sum_of, (1, 3), (1, 1667))
        self.fails(TooGreat, 5000, sum_of, (1, 2), (1, 2501))
        self.fails(TooGreat, 5000, sum_of, (1, 71), (70, 73))

    def test_wrong_arguments(self):
        for value in ANY_VALUES + ((2, 4), (7, 7), (0, 7), (1, 5001), (True, 7), (0, True), [1, 7], "1/7"):
            if value not in ((0, 1), (1, 7)):
                self.fails(BadFraction, value, sum_of, value, (1, 7))
                self.fails(BadFraction, value, sum_of, value, None)
                self.fails(BadFraction, value, sum_of, (1, 7), value)
        self.fails(BadFraction, (1, 5001), sum_of, (1, 4999), (1, 5001))


class SumDenominators(Case):
    def test_told_ones(self):
        for one, two, told in (
            (1, 1, (1,)),
            (1, 7, (7,)),
            (2, 2, (1,)),
            (4, 4, (1, 2)),
            (8, 8, (1, 2, 4)),
            (2, 4, (4,)),
            (3, 3, (1, 3)),
            (7, 7, (1, 7)),
            (9, 9, (1, 3, 9)),
            (12, 12, (1, 2, 3, 6)),
            (6, 10, (15,)),
            (6, 6, (1, 3)),
            (6, 3, (2, 6)),
            (15, 21, (35, 105)),
        ):
            self.same(sum_denominators(one, two), told)
            self.same(sum_denominators(two, one), told)

    def test_against_all_sums(self):
        for one in range(1, 31):
            for two in range(1, 31):
                self.same(sum_denominators(one, two), plain.sum_denominators(one, two))
        for one, two in SOME:
            self.same(sum_denominators(one, two), plain.sum_denominators(one, two))

    def test_great_ones(self):
        self.same(sum_denominators(4999, 4999), (1, 4999))
        self.same(sum_denominators(5000, 5000), tuple(sorted([2 ** x * 5 ** y for x in range(3) for y in range(5)])))
        self.same(sum_denominators(4096, 4096), tuple([2 ** x for x in range(12)]))
        self.same(sum_denominators(8, 625), (5000,))
        self.same(sum_denominators(1, 5000), (5000,))

    def test_beyond(self):
        for one, two in BEYOND:
            self.fails(TooGreat, 5000, sum_denominators, one, two)
            self.fails(TooGreat, 5000, sum_denominators, two, one)

    def test_the_greatest_one_counts(self):
        met = {True: 0, False: 0}
        for one in range(60, 84, 3):
            for two in range(60, 84):
                expected = plain.sum_denominators(one, two)
                met[expected[-1] > 5000] += 1
                if expected[-1] > 5000:
                    self.fails(TooGreat, 5000, sum_denominators, one, two)
                else:
                    self.same(sum_denominators(one, two), expected)
        self.assertTrue(all(met.values()), met)
        # Not all sums of these are beyond.
        self.assertEqual(plain.sum_denominators(3 * 71, 6 * 29), (2 * 71 * 29, 6 * 71 * 29))
        self.fails(TooGreat, 5000, sum_denominators, 3 * 71, 6 * 29)

    def test_wrong_arguments(self):
        for value in NO_INTEGERS + FAR_INTEGERS + (0, 5001):
            self.fails(BadDenominator, value, sum_denominators, value, 7)
            self.fails(BadDenominator, value, sum_denominators, value, "7")
            self.fails(BadDenominator, value, sum_denominators, 7, value)


class SumPeriods(Case):
    def test_told_ones(self):
        self.same(sum_periods(10, 7, 7), (1, 6))
        self.same(sum_periods(10, 7, 13), (6,))
        self.same(sum_periods(10, 12, 12), (1,))
        self.same(sum_periods(10, 49, 49), (1, 6, 42))
        self.same(sum_periods(2, 21, 9), (6,))
        self.same(sum_periods(10, 1, 1), (1,))

    def test_against_all_sums(self):
        for base in (2, 3, 10, 12, 1000):
            for one in range(1, 25):
                for two in range(1, 25):
                    rows = {plain.period(base, denominator) for denominator in plain.sum_denominators(one, two)}
                    self.same(sum_periods(base, one, two), tuple(sorted(rows)))

    def test_great_ones(self):
        for base in (2, 7, 10, 999):
            for one, two in ((4999, 4999), (5000, 5000), (3960, 3960), (8, 625), (4620, 4620)):
                rows = {period(base, denominator) for denominator in sum_denominators(one, two)}
                self.same(sum_periods(base, one, two), tuple(sorted(rows)))

    def test_beyond(self):
        for one, two in BEYOND:
            self.fails(TooGreat, 5000, sum_periods, 10, one, two)
            self.fails(TooGreat, 5000, sum_periods, 10, two, one)

    def test_wrong_arguments(self):
        for value in NO_INTEGERS + FAR_INTEGERS + (0, 1, 1001):
            self.fails(BadBase, value, sum_periods, value, 0, 0)
        for value in NO_INTEGERS + FAR_INTEGERS + (0, 5001):
            self.fails(BadDenominator, value, sum_periods, 10, value, 0)
            self.fails(BadDenominator, value, sum_periods, 10, 71, value)
        self.fails(BadBase, 1001, sum_periods, 1001, 71, 73)


class SumExample(Case):
    def is_example(self, one, two, denominator):
        told = sum_example(one, two, denominator)
        self.assertIs(type(told), tuple)
        self.assertEqual(len(told), 2)
        for fraction, wanted in zip(told, (one, two)):
            self.same(need_fraction(fraction), fraction)
            self.same(fraction[1], wanted)
        self.same(plain.sum_of(*told)[1], denominator)

    def test_every_denominator(self):
        for one in range(1, 21):
            for two in range(1, 21):
                expected = plain.sum_denominators(one, two)
                for denominator in range(1, one * two + 2):
                    if denominator in expected:
                        self.is_example(one, two, denominator)
                    else:
                        self.fails(Nothing, denominator, sum_example, one, two, denominator)

    def test_great_ones(self):
        for one, two in SOME + ((4999, 4999), (5000, 5000), (4096, 4096), (3960, 3960), (8, 625), (1, 5000), (5000, 1)):
            expected = sum_denominators(one, two)
            for denominator in expected:
                self.is_example(one, two, denominator)
            for denominator in (2, 17, 4998, 5000):
                if denominator not in expected:
                    self.fails(Nothing, denominator, sum_example, one, two, denominator)

    def test_none_because_the_sums_are_beyond(self):
        for one, two, denominator in ((71, 73, 5000), (71, 73, 71), (5000, 3, 5000), (4999, 5000, 1), (2, 2501, 2501)):
            self.fails(Nothing, denominator, sum_example, one, two, denominator)
            self.fails(Nothing, denominator, sum_example, two, one, denominator)

    def test_one_beside_others_that_are_beyond(self):
        self.is_example(3 * 71, 6 * 29, 2 * 71 * 29)
        self.is_example(3003, 6, 2002)
        self.fails(Nothing, 3003, sum_example, 3003, 6, 3003)

    def test_wrong_arguments(self):
        for value in NO_INTEGERS + FAR_INTEGERS + (0, 5001):
            self.fails(BadDenominator, value, sum_example, value, 0, 0)
            self.fails(BadDenominator, value, sum_example, 7, value, 0)
            self.fails(BadDenominator, value, sum_example, 7, 7, value)
            self.fails(BadDenominator, value, sum_example, 71, 73, value)
        # 5,183 is the denominator of all these sums, but no DENOMINATOR.
        self.fails(BadDenominator, 5183, sum_example, 71, 73, 5183)


if __name__ == "__main__":
    unittest.main()
