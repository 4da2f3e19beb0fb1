"""Point 7 and wheelnines/pieces.py: the certificates of balance."""

import unittest
from math import gcd

from tests import plain
from tests.case import ANY_VALUES, HUGE, Case, nested
from wheelnines.errors import BadDenominator, BadNumber, BadPaper
from wheelnines.pieces import balance_paper, check_balance

NO_FORMS = (
    *ANY_VALUES,
    "balanced",
    "unbalanced",
    ("balanced",),
    ("unbalanced",),
    ("unbalanced", 3),
    ("unbalanced", (1, 6)),
    ("unbalanced", 3, 2, 1),
    ("balanced", (1, 6), 1),
    ("balanced", 3, 2),
    ("balanced", (1, 2), (2, 4), 7),
    ["balanced", (1, 6)],
    ["unbalanced", 3, 2],
    (("balanced", (1, 6)),),
    ((1, 6), "balanced"),
    (3, 2, "unbalanced"),
    ("Balanced", (1, 6)),
    ("balanced ", (1, 6)),
    ("", (1, 6)),
    ("balance", (1, 6)),
    ("unbalance", 3, 2),
    (b"balanced", (1, 6)),
    (b"unbalanced", 3, 2),
    (True, (1, 6)),
    (None, 3, 2),
    (("balanced",), (1, 6)),
    (["unbalanced"], 3, 2),
    ("not", 3, 2),
    {"balanced": (1, 6)},
)


def cut_rows(most):
    return [
        (base, denominator, cut)
        for base in plain.BASES
        for denominator in range(2, most + 1)
        if gcd(base, denominator) == 1
        for cut in plain.all_cuts(base, denominator)
    ]


def is_balanced(base, denominator, cut):
    return plain.power_sum(base, denominator, cut) % denominator == 0


def changed_tuples(row):
    """Tuples that differ from row at one place."""
    for at, item in enumerate(row):
        before, behind = row[:at], row[at + 1:]
        yield before + behind
        yield before + (item, item) + behind
        for other in (item + 1, item - 1, -item, None, str(item), (item,), [item], HUGE):
            yield before + (other,) + behind
        if item in (0, 1):
            yield before + (item == 1,) + behind
        if behind and behind[0] != item:
            yield before + (behind[0], item) + behind[1:]
    yield row + (1,)
    yield row + (0,)
    yield (0,) + row


class BalancePaper(Case):
    def test_told_ones(self):
        self.same(balance_paper(10, 7, 2), ("balanced", (1, 6)))
        self.same(balance_paper(10, 7, 3), ("balanced", (1, 2, 4)))
        self.same(balance_paper(10, 7, 6), ("balanced", (1, 3, 2, 6, 4, 5)))
        self.same(balance_paper(10, 21, 2), ("unbalanced", 3, 1))
        self.same(balance_paper(10, 21, 3), ("balanced", (1, 16, 4)))
        self.same(balance_paper(10, 63, 2), ("unbalanced", 3, 2))
        self.same(balance_paper(31, 105, 2), ("unbalanced", 3, 1))
        self.same(balance_paper(3, 8, 2), ("unbalanced", 2, 3))

    def test_against_the_plain_ones(self):
        met = {"balanced": 0, "unbalanced": 0, "several": 0, "power": 0}
        for base, denominator, cut in cut_rows(130):
            papers = plain.unbalanced_papers(base, denominator, cut)
            self.assertEqual(papers == [], is_balanced(base, denominator, cut))
            told = balance_paper(base, denominator, cut)
            if papers:
                self.same(told, min(papers))
                met["several"] += len(papers) > 1
                met["power"] += papers[0][2] > 1
            else:
                self.same(told, plain.balanced_paper(base, denominator, cut))
            met[told[0]] += 1
        self.assertGreater(min(met.values()), 20, met)

    def test_great_denominators(self):
        for base, denominator in ((10, 4999), (2, 4095), (3, 4096), (10, 4991), (31, 4998), (1000, 2187), (7, 4800)):
            if gcd(base, denominator) != 1:
                continue
            for cut in plain.all_cuts(base, denominator):
                papers = plain.unbalanced_papers(base, denominator, cut)
                expected = papers[0] if papers else plain.balanced_paper(base, denominator, cut)
                self.same(balance_paper(base, denominator, cut), expected)
                self.same(check_balance(base, denominator, cut, expected), expected[0])

    def test_wrong_ones(self):
        self.fails(BadDenominator, 14, balance_paper, 10, 14, 2)
        self.fails(BadNumber, 4, balance_paper, 10, 7, 4)
        for cut in (1, 2, 3):
            self.fails(BadNumber, cut, balance_paper, 10, 1, cut)


class CheckBalance(Case):
    def test_each_told_certificate(self):
        for base, denominator, cut in cut_rows(130):
            paper = balance_paper(base, denominator, cut)
            self.same(check_balance(base, denominator, cut, paper), paper[0])

    def test_all_unbalanced_ones(self):
        """Each prime that is as described is a certificate, not only the least one."""
        several = 0
        for base, denominator, cut in cut_rows(130):
            papers = plain.unbalanced_papers(base, denominator, cut)
            several += len(papers) > 1
            for paper in papers:
                self.same(check_balance(base, denominator, cut, paper), "unbalanced")
        self.assertGreater(several, 20)

    def test_forms(self):
        for base, denominator, cut in ((10, 7, 2), (10, 63, 2), (10, 21, 3)):
            for paper in NO_FORMS:
                self.fails(BadPaper, "form", check_balance, base, denominator, cut, paper)

    def test_form_comes_after_the_other_arguments(self):
        self.fails(BadDenominator, 14, check_balance, 10, 14, 2, None)
        self.fails(BadNumber, 4, check_balance, 10, 7, 4, None)
        self.fails(BadNumber, 2, check_balance, 10, 1, 2, ("balanced", (0, 0)))

    def test_values_of_any_kind_inside(self):
        for value in ANY_VALUES:
            self.fails(BadPaper, "balanced", check_balance, 10, 7, 2, ("balanced", value))
            self.fails(BadPaper, "balanced", check_balance, 10, 7, 2, ("balanced", (1, value)))
            if value is True or value != 1:
                self.fails(BadPaper, "balanced", check_balance, 10, 7, 2, ("balanced", (value, 6)))
            self.fails(BadPaper, "unbalanced", check_balance, 10, 63, 2, ("unbalanced", value, 2))
            self.fails(BadPaper, "unbalanced", check_balance, 10, 63, 2, ("unbalanced", 3, value))
            self.fails(BadPaper, "unbalanced", check_balance, 10, 63, 2, ("unbalanced", value, value))
            self.fails(BadPaper, "unbalanced", check_balance, 10, 7, 2, ("unbalanced", value, value))
        for shell in (tuple, list):
            deep = nested(20, shell)
            self.fails(BadPaper, "balanced", check_balance, 10, 7, 2, ("balanced", (1, deep)))
            self.fails(BadPaper, "unbalanced", check_balance, 10, 63, 2, ("unbalanced", deep, 2))


class ChangedCertificates(Case):
    def test_one_thing_changed_in_balanced(self):
        for base, denominator, cut in cut_rows(40):
            if is_balanced(base, denominator, cut):
                word, row = plain.balanced_paper(base, denominator, cut)
                for other in changed_tuples(row):
                    if other != row or [type(item) for item in other] != [type(item) for item in row]:
                        self.fails(BadPaper, "balanced", check_balance, base, denominator, cut, (word, other))
                self.fails(BadPaper, "balanced", check_balance, base, denominator, cut, (word, list(row)))
                self.fails(BadPaper, "balanced", check_balance, base, denominator, cut, (word, ()))
                self.fails(BadPaper, "balanced", check_balance, base, denominator, cut, (word, (row,)))

    def test_remainders_that_have_a_good_sum_only(self):
        self.fails(BadPaper, "balanced", check_balance, 10, 7, 2, ("balanced", (6, 1)))
        self.fails(BadPaper, "balanced", check_balance, 10, 7, 2, ("balanced", (0, 7)))
        self.fails(BadPaper, "balanced", check_balance, 10, 7, 2, ("balanced", (3, 4)))
        self.fails(BadPaper, "balanced", check_balance, 10, 7, 2, ("balanced", (1, -1)))
        self.fails(BadPaper, "balanced", check_balance, 10, 7, 2, ("balanced", (1, 1000)))
        self.fails(BadPaper, "balanced", check_balance, 10, 7, 2, ("balanced", (8, 6)))
        self.fails(BadPaper, "balanced", check_balance, 10, 7, 3, ("balanced", (1, 4, 2)))
        self.fails(BadPaper, "balanced", check_balance, 10, 7, 3, ("balanced", (2, 4, 1)))
        self.fails(BadPaper, "balanced", check_balance, 10, 7, 3, ("balanced", (0, 0, 0)))

    def test_true_is_not_one(self):
        self.fails(BadPaper, "balanced", check_balance, 10, 7, 2, ("balanced", (True, 6)))
        self.same(check_balance(10, 21, 2, ("unbalanced", 3, 1)), "unbalanced")
        self.fails(BadPaper, "unbalanced", check_balance, 10, 21, 2, ("unbalanced", 3, True))

    def test_one_thing_changed_in_unbalanced(self):
        for base, denominator, cut in cut_rows(130):
            for word, prime, exponent in plain.unbalanced_papers(base, denominator, cut):
                good = plain.unbalanced_papers(base, denominator, cut)
                for other in list(range(-3, 12)) + [-prime, prime ** 2, prime ** exponent, denominator, HUGE, 4999]:
                    for paper in ((word, other, exponent), (word, prime, other), (word, other, 1)):
                        if paper not in good:
                            self.fails(BadPaper, word, check_balance, base, denominator, cut, paper)
                for other in (None, str(prime), (prime,), [prime], True):
                    self.fails(BadPaper, word, check_balance, base, denominator, cut, (word, other, exponent))
                for other in (None, str(exponent), (exponent,), [exponent], True, False):
                    self.fails(BadPaper, word, check_balance, base, denominator, cut, (word, prime, other))
                self.fails(BadPaper, word, check_balance, base, denominator, cut, (word, exponent, prime + 1))

    def test_powers_are_no_primes(self):
        self.same(check_balance(10, 63, 2, ("unbalanced", 3, 2)), "unbalanced")
        for prime, exponent in ((9, 1), (3, 1), (3, 3), (3, 0), (-3, 2), (1, 1), (63, 1), (21, 1), (0, 1), (7, 1)):
            self.fails(BadPaper, "unbalanced", check_balance, 10, 63, 2, ("unbalanced", prime, exponent))

    def test_the_other_answer(self):
        met = {"balanced": 0, "unbalanced": 0, "divides": 0}
        for base, denominator, cut in cut_rows(130):
            size = plain.period(base, denominator) // cut
            if is_balanced(base, denominator, cut):
                met["unbalanced"] += 1
                for prime, exponent, _ in plain.prime_powers(denominator):
                    paper = ("unbalanced", prime, exponent)
                    met["divides"] += (base ** size - 1) % prime == 0
                    self.fails(BadPaper, "unbalanced", check_balance, base, denominator, cut, paper)
            else:
                met["balanced"] += 1
                paper = plain.balanced_paper(base, denominator, cut)
                self.fails(BadPaper, "balanced", check_balance, base, denominator, cut, paper)
        self.assertGreater(min(met.values()), 20, met)

    def test_primes_that_show_nothing(self):
        met = 0
        for base, denominator, cut in cut_rows(130):
            good = plain.unbalanced_papers(base, denominator, cut)
            if good:
                for prime, exponent, _ in plain.prime_powers(denominator):
                    if ("unbalanced", prime, exponent) not in good:
                        met += 1
                        paper = ("unbalanced", prime, exponent)
                        self.fails(BadPaper, "unbalanced", check_balance, base, denominator, cut, paper)
        self.assertGreater(met, 20)

    def test_certificates_of_other_cuts(self):
        for base, denominator in ((10, 7), (10, 13), (10, 21), (10, 63), (2, 63), (31, 105), (12, 91)):
            all_cuts = plain.all_cuts(base, denominator)
            for cut in all_cuts:
                for other in all_cuts:
                    paper = balance_paper(base, denominator, other)
                    good = paper in plain.unbalanced_papers(base, denominator, cut)
                    if cut == other or good:
                        self.same(check_balance(base, denominator, cut, paper), paper[0])
                    else:
                        self.fails(BadPaper, paper[0], check_balance, base, denominator, cut, paper)


if __name__ == "__main__":
    unittest.main()
