"""Points 2 and 3 and wheelnines/digits.py: digits, expansions, remainders."""

import unittest
from fractions import Fraction
from math import gcd

from tests import plain
from tests.case import FAR_INTEGERS, HUGE, NO_INTEGERS, Case
from wheelnines.digits import (
    digit_at,
    digits_from,
    expansion,
    fraction_of,
    need_digits,
    remainder_at,
    value_of,
)
from wheelnines.errors import BadDigits, BadFraction, BadNumber, Nothing, TooGreat

LAST_PLACE = 10 ** 30
FAR_PLACES = (10 ** 6, 10 ** 9 + 7, 10 ** 18 - 1, 10 ** 29, LAST_PLACE - 401, LAST_PLACE - 1, LAST_PLACE)
GREAT_FRACTIONS = ((1, 5000), (4999, 5000), (1, 4999), (4998, 4999), (2501, 4998), (1, 4096), (1, 3125), (1234, 4913))


class NeedDigits(Case):
    def test_sizes(self):
        for base in (2, 10, 1000):
            for size in (1, 2, 399, 400):
                for digit in (0, 1, base - 1):
                    value = (digit,) * size
                    self.assertIs(need_digits(base, value), value)
            for size in (0, 401, 402, 5000):
                value = (1,) * size
                self.fails(BadDigits, value, need_digits, base, value)

    def test_digits_at_the_bounds(self):
        for base in (2, 3, 10, 16, 999, 1000):
            self.same(need_digits(base, (0, base - 1)), (0, base - 1))
            for digit in (-1, base, base + 1):
                for value in ((digit,), (digit, 1), (1, digit), (0, 1, digit, 1, 0)):
                    self.fails(BadDigits, value, need_digits, base, value)

    def test_one_wrong_item(self):
        for item in NO_INTEGERS + FAR_INTEGERS:
            for value in ((item,), (item, 1), (0, item), (1,) * 399 + (item,)):
                self.fails(BadDigits, value, need_digits, 10, value)


class ValueOf(Case):
    def test_told_ones(self):
        self.same(value_of(10, (1, 4, 2, 8, 5, 7)), 142857)
        self.same(value_of(10, (0, 0, 7)), 7)
        self.same(value_of(10, (0,)), 0)
        self.same(value_of(2, (1, 0, 1, 1)), 11)
        self.same(value_of(1000, (1, 0, 999)), 1000999)

    def test_against_the_plain_one(self):
        for base in plain.BASES:
            for size in (1, 2, 3, 7, 50, 399, 400):
                for step in (0, 1, 7, 311):
                    row = tuple([(place * step + place // 3 + 1) % base for place in range(size)])
                    self.same(value_of(base, row), plain.value(base, row))
                self.same(value_of(base, (base - 1,) * size), base ** size - 1)
                self.same(value_of(base, (0,) * size), 0)

    def test_the_empty_tuple_is_no_digits(self):
        for base in (2, 10, 1000):
            self.fails(BadDigits, (), value_of, base, ())

    def test_sizes(self):
        self.same(value_of(10, (0,) * 399 + (1,)), 1)
        self.fails(BadDigits, (0,) * 401, value_of, 10, (0,) * 401)


class Expansion(Case):
    def test_told_ones(self):
        for base, fraction, told in (
            (10, (0, 1), ((), (0,))),
            (2, (0, 1), ((), (0,))),
            (1000, (0, 1), ((), (0,))),
            (10, (1, 7), ((), (1, 4, 2, 8, 5, 7))),
            (10, (6, 7), ((), (8, 5, 7, 1, 4, 2))),
            (10, (1, 3), ((), (3,))),
            (10, (1, 6), ((1,), (6,))),
            (10, (1, 2), ((5,), (0,))),
            (10, (1, 5), ((2,), (0,))),
            (10, (1, 12), ((0, 8), (3,))),
            (10, (1, 28), ((0, 3), (5, 7, 1, 4, 2, 8))),
            (10, (1, 5000), ((0, 0, 0, 2), (0,))),
            (10, (1, 99), ((), (0, 1))),
            (2, (1, 2), ((1,), (0,))),
            (2, (1, 3), ((), (0, 1))),
            (3, (1, 2), ((), (1,))),
            (16, (1, 17), ((), (0, 15))),
            (1000, (1, 7), ((), (142, 857))),
            (1000, (1, 2), ((500,), (0,))),
        ):
            self.same(expansion(base, fraction), told)

    def test_against_long_division(self):
        for base in plain.BASES:
            for fraction in plain.fractions_up_to(45):
                self.same(expansion(base, fraction), plain.expansion(base, fraction))

    def test_great_denominators(self):
        for base in (2, 10, 30, 999, 1000):
            for fraction in GREAT_FRACTIONS:
                self.same(expansion(base, fraction), plain.expansion(base, fraction))

    def test_different_fractions_have_different_expansions(self):
        for base in (2, 10, 12):
            fractions = plain.fractions_up_to(40)
            self.assertEqual(len({expansion(base, fraction) for fraction in fractions}), len(fractions))

    def test_the_sizes_depend_on_the_denominator(self):
        for base in (2, 10, 12):
            for denominator in range(1, 80):
                rows = [expansion(base, (number, denominator)) for number in plain.numerators(denominator)]
                self.assertEqual(len({(len(head), len(repetend)) for head, repetend in rows}), 1)


class RemaindersAndDigits(Case):
    def test_told_ones(self):
        self.same([remainder_at(10, (1, 7), place) for place in range(8)], [1, 3, 2, 6, 4, 5, 1, 3])
        self.same([digit_at(10, (1, 7), place) for place in range(8)], [1, 4, 2, 8, 5, 7, 1, 4])
        self.same([remainder_at(10, (1, 6), place) for place in range(4)], [1, 4, 4, 4])
        self.same([digit_at(10, (1, 6), place) for place in range(4)], [1, 6, 6, 6])
        # The period is 6, and 10 ** 30 leaves 4 when divided by 6.
        self.same(remainder_at(10, (1, 7), LAST_PLACE), 4)
        self.same(digit_at(10, (1, 7), LAST_PLACE), 5)

    def test_one_after_another(self):
        for base in plain.BASES:
            for fraction in plain.fractions_up_to(16) + list(GREAT_FRACTIONS):
                rest, denominator = fraction
                for place in range(30):
                    self.same(remainder_at(base, fraction, place), rest)
                    self.same(digit_at(base, fraction, place), base * rest // denominator)
                    rest = base * rest % denominator

    def test_far_places(self):
        for base in plain.BASES:
            for fraction in plain.fractions_up_to(16) + list(GREAT_FRACTIONS):
                numerator, denominator = fraction
                for place in FAR_PLACES:
                    rest = numerator * pow(base, place, denominator) % denominator
                    self.same(remainder_at(base, fraction, place), rest)
                    self.same(digit_at(base, fraction, place), base * rest // denominator)

    def test_zero(self):
        for base in (2, 10, 1000):
            for place in (0, 1, 2, 399, 10 ** 20, LAST_PLACE):
                self.same(remainder_at(base, (0, 1), place), 0)
                self.same(digit_at(base, (0, 1), place), 0)

    def test_places_beyond(self):
        for function in (remainder_at, digit_at):
            for place in (-1, -2, -LAST_PLACE, LAST_PLACE + 1, LAST_PLACE + 2, 10 ** 31, HUGE, -HUGE):
                self.fails(BadNumber, place, function, 10, (1, 7), place)
                self.fails(BadNumber, place, function, 10, (0, 1), place)
            for place in NO_INTEGERS:
                self.fails(BadNumber, place, function, 10, (1, 7), place)


class DigitsFrom(Case):
    def test_told_ones(self):
        self.same(digits_from(10, (1, 7), 0, 8), (1, 4, 2, 8, 5, 7, 1, 4))
        self.same(digits_from(10, (1, 7), 3, 4), (8, 5, 7, 1))
        self.same(digits_from(10, (1, 6), 0, 3), (1, 6, 6))
        self.same(digits_from(10, (1, 6), 1, 1), (6,))
        self.same(digits_from(10, (0, 1), 5, 3), (0, 0, 0))

    def test_against_long_division(self):
        for base in (2, 10, 31, 1000):
            for fraction in plain.fractions_up_to(14) + list(GREAT_FRACTIONS):
                head, repetend = plain.expansion(base, fraction)
                row = head + repetend * (500 // len(repetend) + 1)
                for place in (0, 1, 2, 3, 17, 60):
                    for count in (0, 1, 2, 13, 399, 400):
                        self.same(digits_from(base, fraction, place, count), row[place:place + count])

    def test_far_places(self):
        for base in (2, 10, 31, 1000):
            for fraction in plain.fractions_up_to(9) + list(GREAT_FRACTIONS):
                numerator, denominator = fraction
                for place in FAR_PLACES:
                    row = []
                    rest = numerator * pow(base, place, denominator) % denominator
                    for _ in range(400):
                        row.append(base * rest // denominator)
                        rest = base * rest % denominator
                    for count in (0, 1, 5, 400):
                        self.same(digits_from(base, fraction, place, count), tuple(row[:count]))

    def test_counts_beyond(self):
        for count in (-1, 401, 402, HUGE, -HUGE):
            for place in (0, LAST_PLACE):
                self.fails(BadNumber, count, digits_from, 10, (1, 7), place, count)
        for count in NO_INTEGERS:
            self.fails(BadNumber, count, digits_from, 10, (1, 7), 0, count)

    def test_places_beyond(self):
        for place in (-1, LAST_PLACE + 1, None, True):
            for count in (0, 1, 400, 401, None):
                self.fails(BadNumber, place, digits_from, 10, (1, 7), place, count)


class FractionOf(Case):
    def test_told_ones(self):
        for base, head, digits, fraction in (
            (10, (), (3,), (1, 3)),
            (10, (), (1, 4, 2, 8, 5, 7), (1, 7)),
            (10, (1,), (6,), (1, 6)),
            (10, (1,), (9,), (1, 5)),
            (10, (0,), (9,), (1, 10)),
            (10, (4, 9), (9,), (1, 2)),
            (10, (2,), (0,), (1, 5)),
            (10, (), (0,), (0, 1)),
            (10, (0, 0, 0), (0, 0), (0, 1)),
            (10, (0, 0, 0), (9,), (1, 1000)),
            (10, (0, 3), (5, 7, 1, 4, 2, 8), (1, 28)),
            (2, (0,), (1,), (1, 2)),
            (2, (1, 0), (1,), (3, 4)),
            (1000, (), (142, 857), (1, 7)),
            (1000, (499,), (999,), (1, 2)),
        ):
            self.same(fraction_of(base, head, digits), fraction)

    def test_back_from_each_expansion(self):
        for base in plain.BASES:
            for fraction in plain.fractions_up_to(60) + list(GREAT_FRACTIONS):
                head, repetend = expansion(base, fraction)
                if len(repetend) <= 400:
                    self.same(fraction_of(base, head, repetend), fraction)

    def test_digits_that_are_not_the_shortest(self):
        for base in (2, 10, 12, 1000):
            for fraction in plain.fractions_up_to(24):
                head, repetend = expansion(base, fraction)
                turned = repetend[1:] + repetend[:1]
                self.same(fraction_of(base, head, repetend * 2), fraction)
                self.same(fraction_of(base, head, repetend * 5), fraction)
                self.same(fraction_of(base, head + repetend, repetend), fraction)
                self.same(fraction_of(base, head + repetend[:1], turned), fraction)
                self.same(fraction_of(base, head + repetend * 3 + repetend[:1], turned * 2), fraction)

    def test_ends_with_greatest_digits(self):
        for base in (2, 3, 10, 1000):
            for head in ((0,), (1, 0), (0, 0, 1, 0), (base - 1, 0), (base - 2,), (1, base - 2)):
                if plain.repeated(base, head, (base - 1,)) == 1:
                    continue
                part = Fraction(plain.value(base, head) + 1, base ** len(head))
                for many in (1, 2, 400):
                    if part.denominator <= 5000:
                        self.same(
                            fraction_of(base, head, (base - 1,) * many), (part.numerator, part.denominator)
                        )
                    else:
                        self.fails(TooGreat, 5000, fraction_of, base, head, (base - 1,) * many)

    def test_against_fractions(self):
        for base in (2, 3, 10):
            rows = [()] + [(one,) for one in range(base)]
            rows += [(one, two) for one in range(base) for two in range(base)]
            for head in rows:
                for digits in rows[1:]:
                    self.check(base, head, digits)

    def test_short_ones_in_other_bases(self):
        for base in (12, 31, 70, 71, 999, 1000):
            for head in ((), (0,), (1,), (base - 1,), (1, 0), (base // 2,)):
                for digits in ((0,), (1,), (base - 1,), (base // 2, base // 2), (0, 1), (0, base - 1), (base // 3, 0)):
                    self.check(base, head, digits)

    def check(self, base, head, digits):
        number = plain.repeated(base, head, digits)
        if number == 1:
            self.fails(Nothing, digits, fraction_of, base, head, digits)
        elif number.denominator > 5000:
            self.fails(TooGreat, 5000, fraction_of, base, head, digits)
        else:
            self.same(fraction_of(base, head, digits), (number.numerator, number.denominator))

    def test_heads_with_400_digits(self):
        row = expansion(10, (1, 7))[1] * 200
        self.same(fraction_of(10, row[:400], row[400:406]), (1, 7))
        self.same(fraction_of(10, row[:400], row[400:796]), (1, 7))
        self.same(fraction_of(10, row[:399], row[399:795]), (1, 7))
        self.same(fraction_of(10, (), row[:396]), (1, 7))
        self.same(fraction_of(10, (0,) * 400, (0,) * 400), (0, 1))
        self.same(fraction_of(10, (4,) + (9,) * 399, (9,) * 400), (1, 2))
        self.same(fraction_of(1000, (333,) * 400, (333,) * 400), (1, 3))
        self.same(fraction_of(2, (0, 1) * 200, (0, 1) * 200), (1, 3))
        self.fails(TooGreat, 5000, fraction_of, 10, (0,) * 399 + (1,), (0,))
        self.fails(TooGreat, 5000, fraction_of, 10, (0,) * 400, (9,))
        self.fails(TooGreat, 5000, fraction_of, 1000, (0,) * 400, (0,) * 399 + (1,))

    def test_sizes_beyond(self):
        self.fails(BadDigits, (3,) * 401, fraction_of, 10, (3,) * 401, (3,))
        self.fails(BadDigits, (3,) * 401, fraction_of, 10, (), (3,) * 401)
        self.fails(BadDigits, (), fraction_of, 10, (), ())
        self.fails(BadDigits, (), fraction_of, 10, (3,), ())

    def test_a_value_of_one(self):
        for base in (2, 3, 10, 999, 1000):
            for head in (0, 1, 2, 399, 400):
                for many in (1, 2, 400):
                    digits = (base - 1,) * many
                    self.fails(Nothing, digits, fraction_of, base, (base - 1,) * head, digits)
        self.same(fraction_of(10, (9,), (0,)), (9, 10))
        self.same(fraction_of(10, (9,), (9, 0)), (109, 110))
        self.same(fraction_of(11, (), (9,)), (9, 10))
        self.fails(TooGreat, 5000, fraction_of, 10, (9,) * 399 + (8,), (9,))

    def test_the_greatest_denominators(self):
        met = {4999: 0, 5000: 0, 5001: 0, 5003: 0}
        for denominator in met:
            for base in range(2, 1001):
                if met[denominator] == 3 or gcd(base, denominator) != 1 or plain.period(base, denominator) > 400:
                    continue
                met[denominator] += 1
                for numerator in (1, denominator - 1):
                    head, digits = plain.expansion(base, (numerator, denominator))
                    if denominator > 5000:
                        self.fails(TooGreat, 5000, fraction_of, base, head, digits)
                    else:
                        self.same(fraction_of(base, head, digits), (numerator, denominator))
        self.assertTrue(all(met.values()), met)
        self.same(fraction_of(10, (0, 0, 0, 2), (0,)), (1, 5000))
        self.fails(TooGreat, 5000, fraction_of, 10, (0, 0, 0, 1), (0,))
        self.fails(TooGreat, 5000, fraction_of, 10, (), (0, 0, 0, 1))

    def test_heads_of_other_kinds(self):
        for head in NO_INTEGERS + FAR_INTEGERS:
            if head in ((), (7,), (1, 7)):
                continue
            self.fails(BadDigits, head, fraction_of, 10, head, (3,))
            self.fails(BadDigits, (3, head), fraction_of, 10, (3, head), (3,))


class Zero(Case):
    def test_no_other_zero_is_expanded(self):
        for function in (expansion, lambda base, fraction: digits_from(base, fraction, 0, 1)):
            for fraction in ((0, 2), (0, 7), (0, 10), (0, 5000), (1, 1)):
                self.fails(BadFraction, fraction, function, 10, fraction)


if __name__ == "__main__":
    unittest.main()
