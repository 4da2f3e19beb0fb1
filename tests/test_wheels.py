"""Point 8 and wheelnines/wheels.py: rotated digits, wheels, rotations."""

import unittest
from math import gcd

from tests import plain
from tests.case import HUGE, NO_INTEGERS, Case
from wheelnines.digits import expansion
from wheelnines.errors import BadDenominator, BadDigits, BadFraction, BadNumber
from wheelnines.wheels import rotated, rotation, wheel, wheels

MOST_STEPS = 10 ** 30
GREAT = (361, 1001, 2187, 3001, 4913, 4997, 4999)


def pure(base, denominators):
    return [denominator for denominator in denominators if gcd(base, denominator) == 1]


class Rotated(Case):
    def test_told_ones(self):
        row = (1, 4, 2, 8, 5, 7)
        self.same(rotated(10, row, 0), row)
        self.same(rotated(10, row, 1), (4, 2, 8, 5, 7, 1))
        self.same(rotated(10, row, 2), (2, 8, 5, 7, 1, 4))
        self.same(rotated(10, row, 5), (7, 1, 4, 2, 8, 5))
        self.same(rotated(10, row, 6), row)
        self.same(rotated(10, row, 7), (4, 2, 8, 5, 7, 1))
        # 10 ** 30 leaves 4 when divided by 6.
        self.same(rotated(10, row, MOST_STEPS), (5, 7, 1, 4, 2, 8))
        self.same(rotated(10, row, MOST_STEPS - 4), row)
        self.same(rotated(10, (3,), MOST_STEPS), (3,))
        self.same(rotated(10, (0, 0, 5), 1), (0, 5, 0))

    def test_against_the_plain_one(self):
        for base in (2, 3, 10, 999, 1000):
            for size in (1, 2, 3, 5, 8, 31, 399, 400):
                row = tuple([(place * place + 3 * place + 1) % base for place in range(size)])
                for by in (0, 1, 2, 3, size - 1, size, size + 1, 2 * size, 2 * size + 1, 977):
                    self.same(rotated(base, row, by), plain.rotated(row, by))

    def test_far_steps(self):
        for size in (1, 2, 3, 7, 399, 400):
            row = tuple(range(size))
            for by in (10 ** 6, 10 ** 18 + 7, MOST_STEPS - 1, MOST_STEPS):
                self.same(rotated(1000, row, by), plain.rotated(row, by % size))

    def test_steps_beyond(self):
        for row in ((1, 2, 3), (0,), (7,) * 400):
            for by in (-1, -3, -MOST_STEPS, MOST_STEPS + 1, MOST_STEPS + 3, 10 ** 31, HUGE, -HUGE):
                self.fails(BadNumber, by, rotated, 10, row, by)
            for by in NO_INTEGERS:
                self.fails(BadNumber, by, rotated, 10, row, by)

    def test_no_digits(self):
        for row in ((), (10,), (1, -1), (1, True), [1, 2], "12", None, (1,) * 401):
            for by in (0, 1, MOST_STEPS + 1):
                self.fails(BadDigits, row, rotated, 10, row, by)

    def test_the_digits_stay_as_they_are(self):
        row = (1, 2, 3)
        rotated(10, row, 1)
        self.same(row, (1, 2, 3))


class Wheel(Case):
    def test_told_ones(self):
        self.same(wheel(10, (1, 7)), (1, 3, 2, 6, 4, 5))
        self.same(wheel(10, (3, 7)), (3, 2, 6, 4, 5, 1))
        self.same(wheel(10, (1, 13)), (1, 10, 9, 12, 3, 4))
        self.same(wheel(10, (2, 13)), (2, 7, 5, 11, 6, 8))
        self.same(wheel(10, (2, 3)), (2,))
        self.same(wheel(10, (0, 1)), (0,))
        self.same(wheel(2, (3, 7)), (3, 6, 5))

    def test_against_the_plain_one(self):
        for base in plain.BASES:
            for fraction in plain.fractions_up_to(60):
                if gcd(base, fraction[1]) == 1:
                    self.same(wheel(base, fraction), plain.wheel(base, fraction))
                else:
                    self.fails(BadFraction, fraction, wheel, base, fraction)

    def test_great_denominators(self):
        for base in (2, 10, 999, 1000):
            for denominator in pure(base, GREAT):
                for numerator in (1, 2, denominator - 1):
                    told = wheel(base, (numerator, denominator))
                    self.same(told, plain.wheel(base, (numerator, denominator)))
                    self.assertEqual(len(told), plain.period(base, denominator))

    def test_zero(self):
        for base in range(2, 1001):
            self.same(wheel(base, (0, 1)), (0,))

    def test_the_repeating_digits_are_rotated_as_the_wheel(self):
        for base in (2, 7, 10, 12, 1000):
            for fraction in plain.fractions_up_to(40):
                if gcd(base, fraction[1]) != 1:
                    continue
                repetend = expansion(base, fraction)[1]
                for place, rest in enumerate(wheel(base, fraction)):
                    self.same(expansion(base, (rest, fraction[1])), ((), plain.rotated(repetend, place)))

    def test_not_pure(self):
        for fraction in ((1, 2), (1, 5), (3, 14), (1, 35), (1, 4096), (1, 5000)):
            self.fails(BadFraction, fraction, wheel, 10, fraction)
        self.fails(BadFraction, (1, 21), wheel, 6, (1, 21))
        self.same(wheel(10, (1, 21)), (1, 10, 16, 13, 4, 19))


class Wheels(Case):
    def test_told_ones(self):
        self.same(wheels(10, 1), (0,))
        self.same(wheels(10, 3), (1, 2))
        self.same(wheels(10, 7), (1,))
        self.same(wheels(10, 9), (1, 2, 4, 5, 7, 8))
        self.same(wheels(10, 11), (1, 2, 3, 4, 5))
        self.same(wheels(10, 13), (1, 2))
        self.same(wheels(10, 21), (1, 2))
        self.same(wheels(10, 41), (1, 2, 3, 4, 5, 6, 11, 15))
        self.same(wheels(2, 7), (1, 3))
        self.same(wheels(2, 31), (1, 3, 5, 7, 11, 15))

    def test_against_the_plain_one(self):
        for base in plain.BASES:
            for denominator in range(1, 91):
                if gcd(base, denominator) == 1:
                    self.same(wheels(base, denominator), plain.wheels(base, denominator))
                else:
                    self.fails(BadDenominator, denominator, wheels, base, denominator)

    def test_great_denominators(self):
        for base, denominator in ((2, 4097), (10, 4649), (10, 4999), (998, 4997), (1000, 2997), (3, 4096), (999, 5000)):
            self.same(wheels(base, denominator), self.least_by_marking(base, denominator))

    def least_by_marking(self, base, denominator):
        left = set(plain.numerators(denominator))
        least = []
        while left:
            least.append(min(left))
            left = left - set(plain.wheel(base, (least[-1], denominator)))
        return tuple(least)

    def test_all_wheels_together_have_each_numerator_just_once(self):
        for base in (2, 10, 31, 1000):
            for denominator in pure(base, list(range(1, 130)) + [1001, 4097]):
                rows = [wheel(base, (number, denominator)) for number in wheels(base, denominator)]
                together = sorted([rest for row in rows for rest in row])
                self.assertEqual(together, plain.numerators(denominator))
                for row in rows:
                    self.assertEqual(row[0], min(row))
                self.assertEqual(len({len(row) for row in rows}), 1)

    def test_one(self):
        for base in range(2, 1001):
            self.same(wheels(base, 1), (0,))

    def test_bases_that_leave_one(self):
        for denominator in (2, 3, 12, 100, 499):
            expected = tuple(plain.numerators(denominator))
            self.same(wheels(denominator + 1, denominator), expected)
            self.same(wheels(2 * denominator + 1, denominator), expected)

    def test_not_pure(self):
        for denominator in (2, 4, 5, 14, 35, 4998, 5000):
            self.fails(BadDenominator, denominator, wheels, 10, denominator)
        self.fails(BadDenominator, 21, wheels, 6, 21)


class Rotation(Case):
    def test_told_ones(self):
        self.same(rotation(10, (1, 7), (1, 7)), 0)
        self.same(rotation(10, (1, 7), (3, 7)), 1)
        self.same(rotation(10, (1, 7), (2, 7)), 2)
        self.same(rotation(10, (3, 7), (1, 7)), 5)
        self.same(rotation(10, (1, 13), (4, 13)), 5)
        self.same(rotation(10, (1, 13), (2, 13)), None)
        self.same(rotation(10, (1, 3), (2, 3)), None)
        self.same(rotation(10, (0, 1), (0, 1)), 0)

    def test_against_the_plain_one(self):
        for base in (2, 3, 10, 12, 97, 1000):
            for denominator in pure(base, range(1, 32)):
                rows = [(number, denominator) for number in plain.numerators(denominator)]
                for fraction in rows:
                    for other in rows:
                        self.same(rotation(base, fraction, other), plain.rotation(base, fraction, other))

    def test_great_denominators(self):
        for base, denominator in ((10, 4999), (2, 4093), (999, 5000), (3, 4096)):
            row = plain.wheel(base, (1, denominator))
            for place in (0, 1, 2, len(row) // 2, len(row) - 2, len(row) - 1):
                self.same(rotation(base, (1, denominator), (row[place], denominator)), place)
                self.same(rotation(base, (row[place], denominator), (1, denominator)), (len(row) - place) % len(row))
            others = set(plain.numerators(denominator)) - set(row)
            for numerator in sorted(others)[:3]:
                self.same(rotation(base, (1, denominator), (numerator, denominator)), None)

    def test_other_denominators(self):
        for fraction, other in (
            ((1, 7), (1, 13)),
            ((1, 7), (1, 3)),
            ((1, 7), (1, 49)),
            ((1, 7), (1, 21)),
            ((1, 3), (1, 9)),
            ((0, 1), (1, 3)),
            ((1, 3), (0, 1)),
        ):
            self.fails(BadFraction, other, rotation, 10, fraction, other)

    def test_not_pure(self):
        for other in ((1, 2), (1, 14), (3, 28), (1, 5000)):
            self.fails(BadFraction, other, rotation, 10, (1, 7), other)
            self.fails(BadFraction, other, rotation, 10, other, (1, 7))
            self.fails(BadFraction, other, rotation, 10, other, other)
            self.fails(BadFraction, other, rotation, 10, other, None)

    def test_no_fractions(self):
        for other in ((2, 14), (7, 7), (0, 7), (8, 7), [3, 7], (True, 7), 7, None, "3/7"):
            self.fails(BadFraction, other, rotation, 10, (1, 7), other)


if __name__ == "__main__":
    unittest.main()
