"""Points 4 and 12 and wheelnines/lengths.py: denominators with a period, certificates of periods."""

import unittest
from fractions import Fraction
from math import gcd

from tests import plain
from tests.case import ANY_VALUES, FAR_INTEGERS, HUGE, NO_INTEGERS, Case, nested
from wheelnines.errors import BadBase, BadDenominator, BadNumber, BadPaper
from wheelnines.lengths import check_period, denominators_with, period_paper

GREAT = (1001, 2187, 3960, 4096, 4620, 4913, 4998, 4999, 5000)

NO_FORMS = (
    # Two of them are pairs of an integer and a tuple.
    *[value for value in ANY_VALUES if value not in ((1, (7,)), (1, (2, [3])))],
    6,
    "6",
    (6,),
    (6, (), ()),
    (6, ((2, 6), (3, 2)), 1),
    [6, ((2, 6), (3, 2))],
    (((2, 6), (3, 2)), 6),
    (6, [(2, 6), (3, 2)]),
    (6, [[2, 6], [3, 2]]),
    (6, None),
    (6, 2),
    (6, "((2, 6), (3, 2))"),
    (6, {2: 6, 3: 2}),
    (6, nested(20, list)),
    ("6", ((2, 6), (3, 2))),
    (None, ((2, 6), (3, 2))),
    ((6,), ((2, 6), (3, 2))),
    (True, ()),
    (False, ()),
    (0, ()),
    (-6, ((2, 6), (3, 2))),
    (5001, ()),
    (5002, ()),
    (6 * 10 ** 30, ((2, 6), (3, 2))),
    (HUGE, ()),
    (-HUGE, ()),
    {6: (), 7: ()},
)


class DenominatorsWith(Case):
    def test_told_ones(self):
        self.same(denominators_with(10, 1, 5000), (1, 3, 9))
        self.same(denominators_with(10, 2, 5000), (11, 33, 99))
        self.same(denominators_with(10, 3, 1000), (27, 37, 111, 333, 999))
        self.same(denominators_with(10, 3, 998), (27, 37, 111, 333))
        self.same(denominators_with(10, 3, 26), ())
        self.same(denominators_with(10, 4, 1000), (101, 303, 909))
        self.same(denominators_with(2, 1, 5000), (1,))
        self.same(denominators_with(2, 2, 5000), (3,))
        self.same(denominators_with(2, 6, 5000), (9, 21, 63))
        self.same(denominators_with(1000, 1, 5000), (1, 3, 9, 27, 37, 111, 333, 999))
        self.same(denominators_with(1000, 4998, 5000), (4999,) if plain.quick_period(1000, 4999) == 4998 else ())

    def test_against_each_period(self):
        for base in (2, 3, 10, 12, 97, 999, 1000):
            periods = {}
            for denominator in range(1, 5001):
                if gcd(base, denominator) == 1:
                    periods.setdefault(plain.quick_period(base, denominator), []).append(denominator)
            for length in list(range(1, 40)) + sorted(periods)[-5:] + [4999, 5000] + sorted(periods)[40::60]:
                row = tuple(periods.get(length, []))
                for most in (1, 2, 3, 100, 999, 1000, 4999, 5000):
                    self.same(denominators_with(base, length, most), tuple([item for item in row if item <= most]))

    def test_one(self):
        for base in range(2, 1001, 83):
            self.same(denominators_with(base, 1, 1), (1,))
            self.same(denominators_with(base, 2, 1), ())
            self.same(denominators_with(base, 5000, 1), ())

    def test_wrong_arguments(self):
        for value in NO_INTEGERS + FAR_INTEGERS + (0, 5001, 5002):
            self.fails(BadNumber, value, denominators_with, 10, 6, value)
            self.fails(BadNumber, value, denominators_with, 10, value, 7)
            self.fails(BadNumber, value, denominators_with, 10, value, "7")
            self.fails(BadBase, value, denominators_with, value, 0, 0)


class PeriodPaper(Case):
    def test_told_ones(self):
        self.same(period_paper(10, 7), (6, ((2, 6), (3, 2))))
        self.same(period_paper(10, 28), (6, ((2, 6), (3, 2))))
        self.same(period_paper(10, 13), (6, ((2, 12), (3, 9))))
        self.same(period_paper(10, 17), (16, ((2, 16),)))
        self.same(period_paper(2, 9), (6, ((2, 8), (3, 4))))
        self.same(period_paper(10, 27), (3, ((3, 10),)))

    def test_period_one(self):
        for base, denominator in ((10, 1), (10, 2), (10, 3), (10, 9), (10, 5000), (3, 2), (2, 4096), (1000, 999)):
            self.same(period_paper(base, denominator), (1, ()))

    def test_against_full_powers(self):
        for base in plain.BASES:
            for denominator in range(1, 121):
                paper = plain.period_paper(base, denominator)
                self.same(period_paper(base, denominator), paper)
                self.same(check_period(base, denominator, paper), paper[0])

    def test_great_denominators(self):
        for base in (2, 10, 999):
            for denominator in GREAT:
                paper = plain.period_paper(base, denominator)
                self.same(period_paper(base, denominator), paper)
                self.same(check_period(base, denominator, paper), paper[0])

    def test_wrong_arguments(self):
        for value in NO_INTEGERS + FAR_INTEGERS + (0, 1, 1001):
            self.fails(BadBase, value, period_paper, value, 0)
        for value in NO_INTEGERS + FAR_INTEGERS + (0, 5001):
            self.fails(BadDenominator, value, period_paper, 10, value)


class CheckPeriod(Case):
    def refused(self, part, base, denominator, paper):
        self.fails(BadPaper, part, check_period, base, denominator, paper)

    def test_forms(self):
        for paper in NO_FORMS:
            for denominator in (1, 7, 28):
                self.refused("form", 10, denominator, paper)

    def test_true_is_no_length(self):
        self.same(check_period(10, 3, (1, ())), 1)
        self.refused("form", 10, 3, (True, ()))

    def test_lengths_at_their_bounds(self):
        self.same(check_period(10, 1, (1, ())), 1)
        self.refused("power", 10, 7, (1, ()))
        self.refused("pairs", 10, 1, (5000, ()))
        self.refused("form", 10, 1, (5001, ()))

    def test_powers(self):
        for length in list(range(1, 40)) + [4999, 5000]:
            for pairs in (((2, 6), (3, 2)), (), (None,)):
                if length % 6 != 0:
                    self.refused("power", 10, 7, (length, pairs))
                elif length != 6 or pairs != ((2, 6), (3, 2)):
                    self.refused("pairs", 10, 7, (length, pairs))

    def test_every_other_length_with_the_pairs_that_belong_to_it(self):
        for base, denominator in ((10, 7), (10, 28), (2, 9), (10, 1), (10, 3), (12, 35), (10, 49), (1000, 4999)):
            pure = plain.pure_part(base, denominator)
            size = plain.period(base, denominator)
            for length in list(range(1, 100)) + [size, 2 * size, 5000]:
                pairs = tuple([(prime, pow(base, length // prime, pure)) for prime, _, _ in plain.prime_powers(length)])
                paper = (length, pairs)
                if length == size:
                    self.same(check_period(base, denominator, paper), size)
                elif length > 5000:
                    self.refused("form", base, denominator, paper)
                else:
                    self.refused("pairs" if length % size == 0 else "power", base, denominator, paper)

    def test_changed_pairs(self):
        for base, denominator, length, pairs in (
            (10, 7, 6, ((2, 6), (3, 2))),
            (10, 13, 6, ((2, 12), (3, 9))),
            (10, 17, 16, ((2, 16),)),
            (10, 31, 15, ((3, 25), (5, 8))),
        ):
            self.same(check_period(base, denominator, (length, pairs)), length)
            for wrong in self.changed(pairs):
                self.refused("pairs", base, denominator, (length, wrong))

    def changed(self, pairs):
        first, last = pairs[0], pairs[-1]
        rows = [
            (),
            pairs + (last,),
            (first,) + pairs,
            pairs + ((1, 1),),
            pairs + ((7, 1),),
            pairs + ((4, 1),),
            pairs + (None,),
            pairs + ((),),
            pairs[:-1],
            pairs[1:],
            pairs[:-1] + (list(last),),
            pairs[:-1] + (last + (1,),),
            pairs[:-1] + (last[:1],),
            pairs[:-1] + (last[0],),
            pairs[:-1] + ((last[1], last[0]),),
            pairs[:-1] + ((last[0], last[1] + 1),),
            pairs[:-1] + ((last[0], last[1] - 1),),
            pairs[:-1] + ((last[0], 1),),
            pairs[:-1] + ((last[0], True),),
            pairs[:-1] + ((last[0], None),),
            pairs[:-1] + ((last[0], str(last[1])),),
            pairs[:-1] + ((last[0], HUGE),),
            pairs[:-1] + ((last[0], -HUGE),),
            pairs[:-1] + ((True, last[1]),),
            pairs[:-1] + ((last[0] + 1, last[1]),),
            pairs[:-1] + ((-last[0], last[1]),),
            pairs[:-1] + ((last,),),
            pairs[:-1] + (nested(18, tuple),),
            (pairs,),
            tuple(list(range(9000))),
        ]
        if len(pairs) > 1:
            rows.append(tuple(reversed(pairs)))
        return rows

    def test_true_is_no_remainder(self):
        # In base 3 the first power leaves 3, and 1 is never a remainder of a good certificate.
        self.same(check_period(3, 4, (2, ((2, 3),))), 2)
        self.refused("pairs", 3, 4, (2, ((2, True),)))
        # What is 0 for the pure part 1 would be False.
        self.refused("pairs", 10, 1, (2, ((2, False),)))
        self.refused("pairs", 10, 1, (2, ((2, 0),)))

    def test_what_only_equals_an_integer(self):
        self.refused("pairs", 3, 4, (2, ((2, Fraction(3)),)))
        self.refused("pairs", 3, 4, (2, ((Fraction(2), 3),)))
        self.refused("form", 3, 4, (Fraction(2), ((2, 3),)))

    def test_multiples_and_divisors(self):
        self.refused("pairs", 10, 7, (12, ((2, 1), (3, 4))))
        self.refused("pairs", 10, 7, (30, ((2, 6), (3, 4), (5, 1))))
        self.refused("power", 10, 7, (3, ((3, 3),)))
        self.refused("power", 10, 7, (2, ((2, 3),)))
        self.refused("power", 10, 7, (1, ()))
        self.refused("pairs", 10, 3, (2, ((2, 1),)))

    def test_the_part_that_fails_first(self):
        self.refused("form", 10, 7, (5001, None))
        self.refused("form", 10, 7, (4, [(2, 1)]))
        self.refused("power", 10, 7, (4, (None,)))
        self.refused("power", 10, 7, (4, ((2, 2),)))
        self.refused("pairs", 10, 7, (6, (None,)))

    def test_wrong_arguments_come_before_the_paper(self):
        self.fails(BadBase, 1, check_period, 1, 0, None)
        self.fails(BadDenominator, 0, check_period, 10, 0, None)
        self.fails(BadDenominator, 5001, check_period, 10, 5001, (1, ()))

    def test_papers_are_not_changed(self):
        pairs = [(2, 6), [3, 2]]
        self.refused("form", 10, 7, (6, pairs))
        self.assertEqual(pairs, [(2, 6), [3, 2]])
        self.refused("pairs", 10, 7, (6, tuple(pairs)))
        self.assertEqual(pairs, [(2, 6), [3, 2]])


if __name__ == "__main__":
    unittest.main()
