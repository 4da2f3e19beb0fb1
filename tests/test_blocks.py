"""Points 16 and 17 and wheelnines/blocks.py: blocks of digits, exponents and their certificates."""

import unittest
from fractions import Fraction
from math import gcd
from unittest import mock

from tests import plain
from tests.case import ANY_VALUES, FAR_INTEGERS, HUGE, NO_INTEGERS, Case, nested
from wheelnines.blocks import block_sum, check_exponent, exponent_paper, exponents, keeps_remainders
from wheelnines.errors import BadBase, BadDenominator, BadNumber, BadPaper
from wheelnines.numbers import head_size, period

MOST = 10 ** 60
WEIGHTS = (-1000, -999, -10, -2, -1, 0, 1, 2, 10, 999, 1000)
NUMBERS = (0, 1, 9, 10, 999, 1000, 1001, 142857, 10 ** 30, 10 ** 30 - 1, 3 ** 100, 2 ** 199, MOST - 1, MOST)
GREAT = (1001, 2187, 3960, 4096, 4998, 4999, 5000)

NO_SIZES = NO_INTEGERS + FAR_INTEGERS + (0, 401, 402, 1000)
NO_WEIGHTS = NO_INTEGERS + (1001, 1002, -1001, -1002, 5000, 10 ** 31, HUGE, -HUGE)
NO_NUMBERS = NO_INTEGERS + (-1, -2, -MOST, MOST + 1, MOST + 2, 10 ** 61, HUGE, -HUGE)

NO_FORMS = (
    *ANY_VALUES,
    "exponent",
    "never",
    ("exponent",),
    ("never",),
    ("exponent", 3, 6),
    ("never", (1,), 1),
    ("exponent", 3, (1,)),
    ["exponent", 3],
    ["never", (1,)],
    (("exponent", 3),),
    (3, "exponent"),
    ((1,), "never"),
    ("Exponent", 3),
    ("NEVER", (1,)),
    ("exponents", 3),
    ("never ", (1,)),
    ("", 3),
    ("ever", (1,)),
    (b"exponent", 3),
    (b"never", (1,)),
    (None, 3),
    (True, 3),
    (("exponent",), 3),
    (["never"], (1,)),
    ("balanced", (1, 6)),
    ("unbalanced", 3),
    {"exponent": 3},
    {"exponent", "never"},
)


class BlockSum(Case):
    def test_told_ones(self):
        for base, size, weight, number, told in (
            (10, 1, 1, 142857, 27),
            (10, 1, -1, 142857, 7 - 5 + 8 - 2 + 4 - 1),
            (10, 3, 1, 142857, 999),
            (10, 3, -1, 142857, 857 - 142),
            (10, 2, 2, 142857, 57 + 2 * 28 + 4 * 14),
            (10, 2, 0, 142857, 57),
            (10, 6, 7, 142857, 142857),
            (10, 5, 7, 142857, 42857 + 7),
            (10, 1, 10, 142857, 142857),
            (2, 1, 1, 255, 8),
            (1000, 1, 3, 5, 5),
            (10, 1, 1000, 11, 1001),
            (10, 1, -1000, 111, 10 ** 6 - 1000 + 1),
        ):
            self.same(block_sum(base, size, weight, number), told)

    def test_zero(self):
        for base in (2, 10, 1000):
            for size in (1, 400):
                for weight in WEIGHTS:
                    self.same(block_sum(base, size, weight, 0), 0)

    def test_weight_zero(self):
        for number in NUMBERS:
            self.same(block_sum(10, 3, 0, number), number % 1000)
            self.same(block_sum(10, 400, 0, number), number)

    def test_against_the_digits(self):
        for base in (2, 3, 10, 12, 999, 1000):
            for size in (1, 2, 3, 7, 19, 20, 59, 60, 61, 399, 400):
                for weight in WEIGHTS:
                    for number in NUMBERS:
                        expected = plain.block_sum(base, size, weight, number)
                        self.same(block_sum(base, size, weight, number), expected)

    def test_wrong_arguments(self):
        for base in NO_INTEGERS + FAR_INTEGERS + (0, 1, 1001):
            self.fails(BadBase, base, block_sum, base, 0, None, -1)
        for size in NO_SIZES:
            self.fails(BadNumber, size, block_sum, 10, size, 1, 7)
            self.fails(BadNumber, size, block_sum, 10, size, "weight", "number")
        for weight in NO_WEIGHTS:
            self.fails(BadNumber, weight, block_sum, 10, 3, weight, 7)
            self.fails(BadNumber, weight, block_sum, 10, 3, weight, "number")
        for number in NO_NUMBERS:
            self.fails(BadNumber, number, block_sum, 10, 3, 1, number)


class KeepsRemainders(Case):
    def test_told_ones(self):
        for base, denominator, size, weight, told in (
            (10, 9, 1, 1, True),
            (10, 3, 1, 1, True),
            (10, 11, 1, -1, True),
            (10, 11, 2, 1, True),
            (10, 7, 3, -1, True),
            (10, 13, 3, -1, True),
            (10, 1001, 3, -1, True),
            (10, 37, 3, 1, True),
            (10, 7, 1, 3, True),
            (10, 7, 1, -4, True),
            (10, 7, 1, 1, False),
            (10, 11, 1, 1, False),
            (10, 8, 3, 0, True),
            (10, 8, 2, 0, False),
            (10, 8, 2, 4, True),
            (10, 5000, 4, 0, True),
            (10, 5000, 3, 1000, True),
            (1000, 4999, 400, 1, False),
        ):
            self.same(keeps_remainders(base, denominator, size, weight), told)

    def test_one(self):
        for weight in WEIGHTS:
            self.same(keeps_remainders(10, 1, 1, weight), True)
            self.same(keeps_remainders(1000, 1, 400, weight), True)

    def test_against_the_remainders_of_integers(self):
        met = {True: 0, False: 0}
        for base in (2, 10, 12, 1000):
            for denominator in list(range(1, 30)) + [97, 1001, 4999]:
                for size in (1, 2, 3, 6):
                    for weight in (-1000, -4, -1, 0, 1, 2, 3, 1000):
                        # The least integer that shows it is B ** SIZE.
                        numbers = list(range(12)) + [base ** size - 1, base ** size, base ** size + 1, 3 ** 90]
                        sums = [plain.block_sum(base, size, weight, number) for number in numbers]
                        expected = all([(one - two) % denominator == 0 for one, two in zip(numbers, sums)])
                        self.same(keeps_remainders(base, denominator, size, weight), expected)
                        met[expected] += 1
        self.assertGreater(met[True], 100)

    def test_against_full_powers(self):
        for base in (2, 7, 10, 1000):
            for denominator in (1, 2, 9, 27, 37, 101, 4096, 5000):
                for size in (1, 4, 20, 399, 400):
                    for weight in WEIGHTS:
                        expected = (base ** size - weight) % denominator == 0
                        self.same(keeps_remainders(base, denominator, size, weight), expected)

    def test_wrong_arguments(self):
        for base in NO_INTEGERS + FAR_INTEGERS + (0, 1, 1001):
            self.fails(BadBase, base, keeps_remainders, base, 0, 0, None)
        for denominator in NO_INTEGERS + FAR_INTEGERS + (0, 5001):
            self.fails(BadDenominator, denominator, keeps_remainders, 10, denominator, 0, None)
        for size in NO_SIZES:
            self.fails(BadNumber, size, keeps_remainders, 10, 7, size, 1)
            self.fails(BadNumber, size, keeps_remainders, 10, 7, size, None)
        for weight in NO_WEIGHTS:
            self.fails(BadNumber, weight, keeps_remainders, 10, 7, 3, weight)


def rows():
    """Bases, denominators and weights: pure and not pure, 1, weights below 0 and beyond the denominator."""
    found = []
    for base in (2, 3, 10, 12, 1000):
        for denominator in list(range(1, 41)) + [48, 64, 96, 97, 125, 160, 625]:
            for weight in list(range(-7, 14)) + [-1000, -97, 16, 25, 32, 64, 100, 125, 500, 1000]:
                found.append((base, denominator, weight))
    return found


class Exponents(Case):
    def test_told_ones(self):
        for base, denominator, weight, told in (
            (10, 7, 1, (6, 6)),
            (10, 7, 3, (1, 6)),
            (10, 7, 10, (1, 6)),
            (10, 7, -1, (3, 6)),
            (10, 7, 0, None),
            (10, 7, 7, None),
            (10, 3, 1, (1, 1)),
            (10, 3, -2, (1, 1)),
            (10, 3, 2, None),
            (10, 11, 1, (2, 2)),
            (10, 11, -1, (1, 2)),
            (10, 8, 1, None),
            (10, 8, 2, (1, 0)),
            (10, 8, 4, (2, 0)),
            (10, 8, 0, (3, 1)),
            (10, 8, -4, (2, 0)),
            (10, 28, 10, (1, 0)),
            (10, 28, 16, (2, 6)),
            (10, 28, 4, (4, 6)),
            (10, 28, 1, None),
            (10, 1, 0, (1, 1)),
            (10, 1, -1000, (1, 1)),
            (10, 2, 0, (1, 1)),
            (10, 5000, 1000, (3, 0)),
            (10, 5000, 0, (4, 1)),
            (2, 4096, 0, (12, 1)),
            (2, 4096, 512, (9, 0)),
        ):
            self.same(exponents(base, denominator, weight), told)

    def test_against_each_exponent(self):
        met = {"none": 0, "one": 0, "more": 0}
        for base, denominator, weight in rows():
            size, head = period(base, denominator), head_size(base, denominator)
            found = plain.exponents_up_to(base, denominator, weight, head + 2 * size + 3)
            told = exponents(base, denominator, weight)
            if not found:
                self.same(told, None)
                met["none"] += 1
            elif len(found) == 1:
                self.same(told, (found[0], 0))
                self.assertLess(found[0], head)
                met["one"] += 1
            else:
                self.same(told, (found[0], size))
                self.assertEqual(found, list(range(found[0], head + 2 * size + 4, size)))
                met["more"] += 1
        self.assertTrue(all(met.values()), met)

    def test_great_denominators(self):
        for base in (2, 10, 999):
            for denominator in GREAT:
                size, head = period(base, denominator), head_size(base, denominator)
                places = {}
                rest = 1
                for exponent in range(1, head + 2 * size + 3):
                    rest = rest * base % denominator
                    places.setdefault(rest, []).append(exponent)
                for weight in WEIGHTS + (3, 5, 7, 512, -512):
                    found = places.get(weight % denominator)
                    if found is None:
                        self.same(exponents(base, denominator, weight), None)
                    else:
                        step = 0 if len(found) == 1 else size
                        self.same(exponents(base, denominator, weight), (found[0], step))

    def test_wrong_arguments(self):
        for function in (exponents, exponent_paper):
            for base in NO_INTEGERS + FAR_INTEGERS + (0, 1, 1001):
                self.fails(BadBase, base, function, base, 0, None)
            for denominator in NO_INTEGERS + FAR_INTEGERS + (0, 5001):
                self.fails(BadDenominator, denominator, function, 10, denominator, None)
            for weight in NO_WEIGHTS:
                self.fails(BadNumber, weight, function, 10, 7, weight)
                self.fails(BadNumber, weight, check_exponent, 10, 7, weight, None)


class ExponentPaper(Case):
    def test_told_ones(self):
        self.same(exponent_paper(10, 7, 1), ("exponent", 6))
        self.same(exponent_paper(10, 7, 3), ("exponent", 1))
        self.same(exponent_paper(10, 8, 0), ("exponent", 3))
        self.same(exponent_paper(10, 1, -5), ("exponent", 1))
        self.same(exponent_paper(10, 7, 0), ("never", (3, 2, 6, 4, 5, 1)))
        self.same(exponent_paper(10, 3, 0), ("never", (1,)))
        self.same(exponent_paper(10, 8, 1), ("never", (2, 4, 0, 0)))
        self.same(exponent_paper(10, 28, 1), ("never", (10, 16, 20, 4, 12, 8, 24, 16)))

    def test_against_each_exponent(self):
        for base, denominator, weight in rows():
            count = period(base, denominator) + head_size(base, denominator)
            found = plain.exponents_up_to(base, denominator, weight, count)
            if found:
                paper = ("exponent", found[0])
            else:
                paper = ("never", tuple([base ** exponent % denominator for exponent in range(1, count + 1)]))
            self.same(exponent_paper(base, denominator, weight), paper)
            self.same(check_exponent(base, denominator, weight, paper), paper[0])

    def test_great_denominators(self):
        for base in (2, 3, 10, 999, 1000):
            for denominator in GREAT:
                for weight in WEIGHTS:
                    paper = exponent_paper(base, denominator, weight)
                    self.same(check_exponent(base, denominator, weight, paper), paper[0])
                    if paper[0] == "never":
                        count = period(base, denominator) + head_size(base, denominator)
                        rests = [pow(base, exponent, denominator) for exponent in range(1, count + 1)]
                        self.same(paper[1], tuple(rests))


class CheckExponent(Case):
    def refused(self, part, base, denominator, weight, paper):
        self.fails(BadPaper, part, check_exponent, base, denominator, weight, paper)

    def test_forms(self):
        for paper in NO_FORMS:
            self.refused("form", 10, 7, 1, paper)
            self.refused("form", 10, 7, 0, paper)

    def test_any_exponent(self):
        for base, denominator, weight in (
            (10, 7, 1), (10, 7, -1), (10, 28, 4), (10, 8, 0), (10, 8, 2), (10, 1, 3), (10, 7, 0),
        ):
            for exponent in list(range(1, 60)) + [9995, 9996, 9997, 9998, 9999, 10000]:
                if (base ** exponent - weight) % denominator == 0:
                    self.same(check_exponent(base, denominator, weight, ("exponent", exponent)), "exponent")
                else:
                    self.refused("exponent", base, denominator, weight, ("exponent", exponent))

    def test_exponents_beyond(self):
        # For the denominator 1 each exponent is one, but these are none in a certificate.
        for exponent in (0, -1, -6, 10001, 10002, 10 ** 30, HUGE, -HUGE):
            self.refused("exponent", 10, 1, 1, ("exponent", exponent))
            self.refused("exponent", 10, 3, 1, ("exponent", exponent))
        self.same(check_exponent(10, 1, 1, ("exponent", 10000)), "exponent")
        self.same(check_exponent(10, 3, 1, ("exponent", 10000)), "exponent")

    def test_no_exponents(self):
        for proof in NO_INTEGERS + ((1,), [1], ("exponent", 1)):
            self.refused("exponent", 10, 3, 1, ("exponent", proof))
        self.same(check_exponent(10, 3, 1, ("exponent", 1)), "exponent")

    def test_no_remainders(self):
        for proof in (*ANY_VALUES, nested(19, tuple), nested(19, list), "1", [1], {1}, {1: 1}, (2,), ("1",), ((1,),)):
            self.refused("never", 10, 3, 2, ("never", proof))
        self.same(check_exponent(10, 3, 2, ("never", (1,))), "never")
        self.refused("never", 10, 3, 2, ("never", (True,)))
        self.refused("never", 10, 3, 2, ("never", (Fraction(1),)))
        self.refused("exponent", 10, 3, 1, ("exponent", Fraction(1)))

    def test_words_that_only_seem_equal(self):
        self.refused("form", 10, 3, 1, (mock.ANY, 1))
        self.refused("form", 10, 3, 2, (mock.ANY, (1,)))

    def test_changed_remainders(self):
        for base, denominator, weight in ((10, 7, 0), (10, 28, 1), (10, 8, 1), (2, 31, 3), (10, 3, 2), (3, 4, 2)):
            paper = exponent_paper(base, denominator, weight)
            self.same(paper[0], "never")
            row = paper[1]
            self.same(check_exponent(base, denominator, weight, ("never", row)), "never")
            for wrong in self.changed(row, denominator):
                self.refused("never", base, denominator, weight, ("never", wrong))

    def changed(self, row, denominator):
        found = [(), row[:-1], row[1:], row + row[:1], (1,) + row, row + row, row + (0,), row + (None,), list(row)]
        for at, rest in enumerate(row):
            for other in (rest + 1, rest - 1, rest + denominator, rest - denominator, str(rest), None, (rest,), HUGE):
                found.append(row[:at] + (other,) + row[at + 1:])
            if rest in (0, 1):
                found.append(row[:at] + (rest == 1,) + row[at + 1:])
        if len(set(row)) > 1:
            found.append(tuple(reversed(row)))
        return found

    def test_the_other_kind(self):
        for base, denominator, weight in rows()[::7]:
            count = period(base, denominator) + head_size(base, denominator)
            rests = tuple([pow(base, exponent, denominator) for exponent in range(1, count + 1)])
            kind, proof = exponent_paper(base, denominator, weight)
            if kind == "exponent":
                self.refused("never", base, denominator, weight, ("never", rests))
                self.refused("never", base, denominator, weight, ("never", proof))
            else:
                for exponent in (1, 2, count, 10000):
                    self.refused("exponent", base, denominator, weight, ("exponent", exponent))
                self.refused("exponent", base, denominator, weight, ("exponent", rests))

    def test_wrong_arguments_come_before_the_paper(self):
        self.fails(BadBase, 1, check_exponent, 1, 0, 1001, None)
        self.fails(BadDenominator, 0, check_exponent, 10, 0, 1001, None)
        self.fails(BadNumber, 1001, check_exponent, 10, 7, 1001, None)
        self.fails(BadNumber, True, check_exponent, 10, 7, True, ("exponent", 6))

    def test_papers_are_not_changed(self):
        rests = [3, 2, 6, 4, 5, 1]
        self.refused("never", 10, 7, 0, ("never", rests))
        self.assertEqual(rests, [3, 2, 6, 4, 5, 1])
        paper = ["exponent", 6]
        self.refused("form", 10, 7, 1, paper)
        self.assertEqual(paper, ["exponent", 6])

    def test_pure_or_not(self):
        for denominator in range(1, 60):
            for weight in (0, 1):
                kind = exponent_paper(10, denominator, weight)[0]
                if gcd(10, denominator) == 1 and weight == 1:
                    self.assertEqual(kind, "exponent")
                if gcd(10, denominator) != 1 and weight == 1:
                    self.assertEqual(kind, "never")


if __name__ == "__main__":
    unittest.main()
