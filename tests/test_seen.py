"""Point 15 and wheelnines/seen.py: fractions from some of their digits."""

import unittest

from tests import plain
from tests.case import ANY_VALUES, FAR_INTEGERS, HUGE, NO_INTEGERS, Case, nested
from wheelnines.errors import BadBase, BadFraction, BadNumber, BadSeen, Nothing, TooGreat
from wheelnines.seen import fits, fitting, need_seen, simplest, sure_digits

GOOD_SEEN = (
    (0,),
    (9,),
    (None,),
    (None,) * 20,
    (0,) * 20,
    (9,) * 20,
    (1, 4, 2, 8),
    (1, None, 2, None),
    (None, None, None, 7),
    (None,) * 19 + (3,),
    (3,) + (None,) * 19,
)

NO_SEEN = (
    # The others are digits.
    *[value for value in ANY_VALUES if value not in ((7,), (1, 7), (0, 1))],
    (),
    (None,) * 21,
    (0,) * 21,
    (10,),
    (-1,),
    (1, 10),
    (1, None, 11),
    (1, -1),
    (True,),
    (False,),
    (1, True, 2),
    (None, False),
    ("1",),
    (b"1",),
    ("",),
    (1, "4"),
    (1, (4,)),
    (1, [4]),
    ((1, 4),),
    (None, ()),
    [1, 4],
    [None],
    "1428",
    "None",
    {1: 4},
    {1, 4},
    (HUGE,),
    (-HUGE, 1),
    (1, nested(18, tuple)),
    range(3),
)

FRACTIONS = plain.fractions_up_to(200)

# What is seen of fractions with small and great denominators, and of none.
SOME_SEEN = (
    (10, (1, 4, 2, 8, 5, 7)),
    (10, (1, 4, 2)),
    (10, (0, 0, 5)),
    (10, (0, 0, 0)),
    (10, (3,)),
    (10, (None, 3)),
    (10, (9, 9)),
    (10, (9, 9, 4)),
    (10, (9, 9, 9)),
    (10, (1, None, 2, None, 5)),
    (10, (None, None, None, None, 0, 0)),
    (10, (0,) * 20),
    (10, (5,) + (0,) * 19),
    (10, (None,) * 12 + (1, 4, 2, 8, 5, 7, 1, 4)),
    (10, (1, 2, 3, 4, 5, 6)),
    (2, (0, 1, 0, 1)),
    (2, (1,) * 8),
    (2, (None,) * 10 + (1, 1, 0, 0)),
    (3, (2, None, 1, None, 0)),
    (12, (1, 8, 6)),
    (997, (996,)),
    (1000, (142, 857)),
    (1000, (5,)),
    (1000, (None, 5)),
    (1000, (999,)),
)


def found(base, seen, most):
    """All that fit, sorted by denominator and then by numerator."""
    rows = [fraction for fraction in FRACTIONS if fraction[1] <= most and plain.fits(base, fraction, seen)]
    return tuple(sorted(rows, key=lambda row: (row[1], row[0])))


class NeedSeen(Case):
    def test_good_ones(self):
        for seen in GOOD_SEEN:
            self.assertIs(need_seen(10, seen), seen)
        for base in (2, 3, 10, 999, 1000):
            for seen in ((0,), (base - 1,), (None,), (0, None, base - 1), (base - 1,) * 20):
                self.assertIs(need_seen(base, seen), seen)

    def test_wrong_ones(self):
        for seen in NO_SEEN:
            self.fails(BadSeen, seen, need_seen, 10, seen)
            self.fails(BadSeen, seen, fits, 10, (1, 7), seen)
            self.fails(BadSeen, seen, fitting, 10, seen, 7)
            self.fails(BadSeen, seen, simplest, 10, seen, 0)
            self.fails(BadSeen, seen, sure_digits, 10, seen, 0, -1)

    def test_digits_of_the_base(self):
        for base in (2, 3, 10, 999, 1000):
            for seen in ((base,), (0, base), (None, base), (base - 1, -1), (base + 1,), (0,) * 19 + (base,)):
                self.fails(BadSeen, seen, need_seen, base, seen)

    def test_wrong_bases(self):
        for base in NO_INTEGERS + FAR_INTEGERS + (0, 1, 1001):
            self.fails(BadBase, base, need_seen, base, ())
            self.fails(BadBase, base, need_seen, base, (1,))


class Fits(Case):
    def test_told_ones(self):
        for seen, told in (
            ((1,), True),
            ((1, 4, 2, 8, 5, 7, 1, 4), True),
            ((1, 4, 2, 8, 5, 7) * 3 + (1, 4), True),
            ((1, 4, 2, 8, 5, 7) * 3 + (1, 5), False),
            ((None,) * 20, True),
            ((None,) * 19 + (4,), True),
            ((None,) * 19 + (1,), False),
            ((4,), False),
            ((None, 4), True),
            ((None, 4, None, 8), True),
            ((None, 4, None, 7), False),
        ):
            self.same(fits(10, (1, 7), seen), told)
        self.same(fits(10, (1, 5), (2, 0)), True)
        self.same(fits(10, (1, 5), (1, 9)), False)
        self.same(fits(10, (0, 1), (0,) * 20), True)
        self.same(fits(1000, (4999, 5000), (999, 800, 0)), True)

    def test_its_own_digits(self):
        for base in plain.BASES:
            for fraction in plain.fractions_up_to(20) + [(1, 4999), (2500, 4999), (4999, 5000)]:
                digits = plain.first_digits(base, fraction, 20)
                for count in (1, 2, 3, 19, 20):
                    self.same(fits(base, fraction, digits[:count]), True)
                for at in range(20):
                    hidden = digits[:at] + (None,) + digits[at + 1:]
                    self.same(fits(base, fraction, hidden), True)
                    other = digits[:at] + ((digits[at] + 1) % base,) + digits[at + 1:]
                    self.same(fits(base, fraction, other), False)
                    self.same(fits(base, fraction, (None,) * at + other[at:at + 1]), False)
                    self.same(fits(base, fraction, (None,) * at + digits[at:at + 1]), True)

    def test_against_a_division(self):
        for base, seen in SOME_SEEN:
            for fraction in plain.fractions_up_to(40):
                self.same(fits(base, fraction, seen), plain.fits(base, fraction, seen))

    def test_wrong_arguments(self):
        for value in ((2, 4), (0, 7), (7, 7), (True, 7), (1, 5001), [1, 7], "1/7", None, 7):
            self.fails(BadFraction, value, fits, 10, value, (1,))
            self.fails(BadFraction, value, fits, 10, value, ())
        self.fails(BadBase, 1, fits, 1, (2, 4), ())


class Fitting(Case):
    def test_told_ones(self):
        self.same(fitting(10, (1, 4, 2, 8), 20), ((1, 7),))
        self.same(fitting(10, (1, 4), 20), ((1, 7),))
        self.same(fitting(10, (5,), 4), ((1, 2),))
        self.same(fitting(10, (5,), 9), ((1, 2), (4, 7), (5, 9)))
        self.same(fitting(10, (None,), 4), ((0, 1), (1, 2), (1, 3), (2, 3), (1, 4), (3, 4)))
        self.same(fitting(10, (0,), 10), ((0, 1),))
        self.same(fitting(10, (0,), 11), ((0, 1), (1, 11)))
        self.same(fitting(10, (9, 9), 99), ())
        self.same(fitting(10, (9, 9), 101), ((99, 100), (100, 101)))

    def test_against_each_fraction(self):
        for base, seen in SOME_SEEN:
            for most in (1, 2, 7, 28, 101, 200):
                rows = found(base, seen, most)
                if len(rows) > 1000:
                    self.fails(TooGreat, 1000, fitting, base, seen, most)
                else:
                    self.same(fitting(base, seen, most), rows)

    def test_a_thousand_and_one_more(self):
        for base, digit, most in ((3, 1, 99), (7, 1, 151), (7, 5, 151), (8, 0, 162)):
            rows = found(base, (digit,), most)
            self.assertEqual(len(rows), 1000)
            self.same(fitting(base, (digit,), most), rows)
        for base, digit, most in ((6, 1, 140), (7, 2, 151), (7, 4, 151)):
            self.assertEqual(len(found(base, (digit,), most)), 1001)
            self.fails(TooGreat, 1000, fitting, base, (digit,), most)

    def test_all_of_them(self):
        self.fails(TooGreat, 1000, fitting, 10, (None,), 200)
        self.fails(TooGreat, 1000, fitting, 10, (None,) * 20, 58)
        self.same(fitting(10, (None,) * 20, 57), tuple(plain.fractions_up_to(57)))

    def test_bounds(self):
        for most in NO_INTEGERS + FAR_INTEGERS + (0, 201, 202, 1000):
            self.fails(BadNumber, most, fitting, 10, (1, 4), most)
            self.fails(BadNumber, most, simplest, 10, (1, 4), most)
            self.fails(BadNumber, most, sure_digits, 10, (1, 4), most, 5)
            self.fails(BadNumber, most, sure_digits, 10, (1, 4), most, None)
        self.same(fitting(10, (0,), 1), ((0, 1),))
        self.same(fitting(10, (1,), 1), ())


class Simplest(Case):
    def test_told_ones(self):
        self.same(simplest(10, (1, 4), 200), (1, 7))
        self.same(simplest(10, (3, 3), 200), (1, 3))
        self.same(simplest(10, (5,), 200), (1, 2))
        self.same(simplest(10, (None,) * 20, 200), (0, 1))
        self.same(simplest(10, (3, 1, 8), 200), (7, 22))
        self.same(simplest(10, (9, 9), 99), None)
        self.same(simplest(10, (9, 9), 100), (99, 100))
        self.same(simplest(10, (1, 4, 1, 5, 9, 2), 105), None)
        self.same(simplest(10, (1, 4, 1, 5, 9, 2), 113), (16, 113))

    def test_against_each_fraction(self):
        for base, seen in SOME_SEEN:
            for most in (1, 2, 7, 28, 101, 200):
                rows = found(base, seen, most)
                self.same(simplest(base, seen, most), rows[0] if rows else None)

    def test_however_many(self):
        self.fails(TooGreat, 1000, fitting, 2, (None, 1), 200)
        self.same(simplest(2, (None, 1), 200), (1, 3))
        self.same(simplest(2, (None,), 200), (0, 1))


class SureDigits(Case):
    def test_told_ones(self):
        self.same(sure_digits(10, (1, 4, 2, 8), 20, 8), (1, 4, 2, 8, 5, 7, 1, 4))
        self.same(sure_digits(10, (1, None, 2), 7, 3), (1, 4, 2))
        self.same(sure_digits(10, (9, 9), 101, 3), (9, 9, 0))
        # 0.99000.. and 0.990099..
        self.same(sure_digits(10, (9, 9), 101, 6), (9, 9, 0, 0, None, None))
        self.same(sure_digits(10, (None,), 3, 2), (None, None))
        self.same(sure_digits(10, (0,), 1, 4), (0, 0, 0, 0))

    def test_counts_at_their_bounds(self):
        self.same(sure_digits(10, (1, 4), 20, 0), ())
        self.same(sure_digits(10, (None,) * 20, 200, 0), ())
        self.same(sure_digits(10, (1, 4), 20, 60), (1, 4, 2, 8, 5, 7) * 10)
        self.same(sure_digits(10, (0,) * 20, 200, 60), (0,) * 60)
        self.same(sure_digits(10, (None,) * 20, 200, 60), (None,) * 60)
        self.same(len(sure_digits(10, (1,), 200, 60)), 60)

    def test_against_each_fraction(self):
        for base, seen in SOME_SEEN:
            for most in (1, 7, 28, 101):
                rows = found(base, seen, most)
                for count in (0, 1, 2, 7, 60):
                    if not rows:
                        self.fails(Nothing, seen, sure_digits, base, seen, most, count)
                        continue
                    columns = list(zip(*[plain.first_digits(base, row, count) for row in rows]))
                    expected = [column[0] if len(set(column)) == 1 else None for column in columns]
                    self.same(sure_digits(base, seen, most, count), tuple(expected))

    def test_however_many(self):
        rows = found(2, (None, 1), 200)
        self.assertGreater(len(rows), 1000)
        self.same(sure_digits(2, (None, 1), 200, 4), (None, 1, None, None))

    def test_wrong_counts(self):
        for count in NO_INTEGERS + FAR_INTEGERS + (61, 62, 400):
            self.fails(BadNumber, count, sure_digits, 10, (1, 4), 20, count)
            # Whether none fits is told behind the arguments.
            self.fails(BadNumber, count, sure_digits, 10, (9, 9), 20, count)

    def test_none_fits(self):
        for base, seen, most in ((10, (9, 9), 99), (10, (1,), 1), (10, (None, 1), 1), (1000, (999,), 200)):
            for count in (0, 1, 60):
                self.fails(Nothing, seen, sure_digits, base, seen, most, count)

    def test_what_is_seen_stays_as_it_is(self):
        seen = (1, None, 2)
        sure_digits(10, seen, 200, 60)
        self.same(seen, (1, None, 2))


if __name__ == "__main__":
    unittest.main()
