"""Point 18 and wheelnines/facts.py: facts about an unknown denominator or base."""

import unittest
from math import gcd

from tests import plain
from tests.case import ANY_VALUES, FAR_INTEGERS, HUGE, NO_INTEGERS, Case, nested
from wheelnines.errors import BadBase, BadDenominator, BadFacts, BadNumber
from wheelnines.facts import bases_by, denominators_by, is_satisfied, need_facts

MOST = 10 ** 30

GOOD_FACTS = (
    ("period", 1),
    ("period", 5000),
    ("head", 0),
    ("head", 20),
    ("wheels", 1),
    ("wheels", 5000),
    ("balanced", 2, True),
    ("balanced", 2, False),
    ("balanced", 5000, True),
    ("balanced", 5000, False),
    ("power", 0, 0),
    ("power", 0, 4999),
    ("power", MOST, 0),
    ("power", MOST, 4999),
)

# Each of these is wrong in the place of every integer of a fact.
NO_NUMBERS = NO_INTEGERS + FAR_INTEGERS

NO_FACTS = (
    *ANY_VALUES,
    ("period",),
    ("period", 0),
    ("period", 5001),
    ("period", -6),
    ("period", 6, 6),
    ("period", 6, True),
    ("period", (6,)),
    ["period", 6],
    ("head",),
    ("head", -1),
    ("head", 21),
    ("head", 0, 0),
    ["head", 0],
    ("wheels",),
    ("wheels", 0),
    ("wheels", 5001),
    ("wheels", 1, 1),
    ["wheels", 1],
    ("balanced",),
    ("balanced", 2),
    ("balanced", True),
    ("balanced", True, 2),
    ("balanced", 2, True, True),
    ("balanced", 1, True),
    ("balanced", 0, False),
    ("balanced", 5001, True),
    ("balanced", -2, True),
    ("balanced", 2, 1),
    ("balanced", 2, 0),
    ("balanced", 2, None),
    ("balanced", 2, "True"),
    ("balanced", 2, (True,)),
    ("balanced", 2, [False]),
    ["balanced", 2, True],
    ("power",),
    ("power", 3),
    ("power", 3, 6, 6),
    ("power", -1, 6),
    ("power", MOST + 1, 6),
    ("power", 3, -1),
    ("power", 3, 5000),
    ("power", 3, 5001),
    ("power", (3, 6)),
    ["power", 3, 6],
    ("", 6),
    ("Period", 6),
    ("PERIOD", 6),
    ("period ", 6),
    (" period", 6),
    ("periods", 6),
    ("perio", 6),
    ("wheel", 1),
    ("unbalanced", 2, True),
    ("unbalanced", 3, 2),
    ("exponent", 3),
    ("never", (1,)),
    (b"period", 6),
    (("period", 6),),
    (("period",), 6),
    (["period"], 6),
    ({"period": 6}, 6),
    (None, 6),
    (True, 6),
    (6, "period"),
    ("period", "6"),
    ("period",) * 5000,
    {"period": 6},
    {"period", 6},
    "period 6",
)

SINGLE = (
    *[("period", length) for length in (1, 2, 3, 4, 6, 12, 16, 60)],
    *[("head", size) for size in (0, 1, 2, 3, 4)],
    *[("wheels", many) for many in (1, 2, 3, 6, 8)],
    *[("balanced", cut, answer) for cut in (2, 3, 4, 6, 9) for answer in (True, False)],
    ("power", 0, 0),
    ("power", 0, 1),
    ("power", 1, 0),
    ("power", 1, 3),
    ("power", 2, 4),
    ("power", 3, 6),
    ("power", 6, 1),
    ("power", 10, 10),
    ("power", 101, 5),
    ("power", MOST, 1),
    ("power", MOST, 4),
    ("power", 1, 4999),
)

SEVERAL = (
    (("period", 6), ("head", 0)),
    (("period", 6), ("head", 1)),
    (("period", 6), ("wheels", 1)),
    (("period", 6), ("balanced", 2, True), ("balanced", 3, True)),
    (("period", 6), ("balanced", 2, False), ("balanced", 3, True)),
    (("period", 6), ("period", 3)),
    (("balanced", 2, True), ("balanced", 2, False)),
    (("head", 2), ("wheels", 1)),
    (("head", 0), ("head", 0)),
    (("power", 1, 3), ("power", 2, 2), ("power", 3, 6)),
    (("power", 6, 1), ("period", 6), ("wheels", 2), ("head", 0), ("balanced", 3, True)),
    (("period", 1),) * 10,
    (("wheels", 2), ("balanced", 6, True)) * 5,
)


def expected(base, denominator, facts):
    return all([plain.satisfies(base, denominator, fact) for fact in facts])


class NeedFacts(Case):
    def test_good_ones(self):
        for fact in GOOD_FACTS:
            facts = (fact,)
            self.assertIs(need_facts(facts), facts)
        for facts in SEVERAL + (GOOD_FACTS[:10], GOOD_FACTS[4:], GOOD_FACTS[:1] * 10):
            self.assertIs(need_facts(facts), facts)

    def test_no_tuples_of_them(self):
        for facts in (
            *[value for value in ANY_VALUES if not isinstance(value, tuple)],
            (),
            [],
            [("period", 6)],
            list(GOOD_FACTS[:10]),
            GOOD_FACTS[:11],
            GOOD_FACTS[:1] * 11,
            (None,) * 11,
            GOOD_FACTS * 1000,
            {("period", 6): 1},
            {("period", 6)},
            "period 6",
            range(3),
        ):
            self.refused(None, facts)

    def refused(self, kept, facts):
        self.fails(BadFacts, kept, need_facts, facts)
        self.fails(BadFacts, kept, is_satisfied, 10, 7, facts)
        self.fails(BadFacts, kept, denominators_by, 10, facts, 0)
        self.fails(BadFacts, kept, bases_by, 7, facts, 1)

    def test_a_fact_alone_is_no_tuple_of_facts(self):
        self.refused(0, ("period", 6))
        self.refused(0, ("balanced", 2, True))

    def test_no_facts(self):
        for fact in NO_FACTS:
            self.refused(0, (fact,))
            self.refused(1, (("period", 6), fact))
            self.refused(1, (("period", 6), fact, fact, None))
            self.refused(9, (("head", 0),) * 9 + (fact,))

    def test_numbers_of_every_kind(self):
        for value in NO_NUMBERS:
            for fact in (
                ("period", value),
                ("head", value),
                ("wheels", value),
                ("balanced", value, True),
                ("power", value, 1),
                ("power", 1, value),
            ):
                self.fails(BadFacts, 0, need_facts, (fact,))
                self.fails(BadFacts, 2, need_facts, (("head", 0), ("power", 0, 0), fact))

    def test_answers_of_every_kind(self):
        for value in ANY_VALUES:
            if value is not True and value is not False:
                self.fails(BadFacts, 0, need_facts, (("balanced", 2, value),))
                self.fails(BadFacts, 1, need_facts, (("balanced", 2, True), ("balanced", 2, value)))

    def test_words_of_every_kind(self):
        for value in ANY_VALUES:
            for rest in ((6,), (2, True), (3, 6), ()):
                self.fails(BadFacts, 0, need_facts, ((value,) + rest,))

    def test_the_first_one_is_told(self):
        wrong = ("head", 21)
        for at in range(10):
            for later in range(at, 10):
                facts = [("head", 20)] * 10
                facts[at] = wrong
                facts[later] = None if later > at else wrong
                self.fails(BadFacts, at, need_facts, tuple(facts))

    def test_deep_ones(self):
        for shell in (tuple, list):
            self.fails(BadFacts, 0, need_facts, (nested(19, shell),))
            self.fails(BadFacts, 0, need_facts, (("period", nested(18, shell)),))

    def test_nothing_is_changed(self):
        fact = ["period", 6]
        self.fails(BadFacts, 0, need_facts, (fact,))
        self.assertEqual(fact, ["period", 6])
        facts = [("period", 6)]
        self.fails(BadFacts, None, need_facts, facts)
        self.assertEqual(facts, [("period", 6)])


class IsSatisfied(Case):
    def test_told_ones(self):
        for base, denominator, fact, told in (
            (10, 7, ("period", 6), True),
            (10, 7, ("period", 3), False),
            (10, 28, ("period", 6), True),
            (10, 1, ("period", 1), True),
            (10, 5000, ("period", 1), True),
            (10, 7, ("head", 0), True),
            (10, 28, ("head", 2), True),
            (10, 28, ("head", 1), False),
            (10, 5000, ("head", 4), True),
            (2, 4096, ("head", 12), True),
            (10, 1, ("head", 0), True),
            (10, 7, ("wheels", 1), True),
            (10, 13, ("wheels", 2), True),
            (10, 13, ("wheels", 1), False),
            (10, 1, ("wheels", 1), True),
            (10, 2, ("wheels", 1), False),
            (10, 28, ("wheels", 1), False),
            (1000, 999, ("wheels", 648), True),
            (10, 7, ("balanced", 2, True), True),
            (10, 7, ("balanced", 2, False), False),
            (10, 21, ("balanced", 2, True), False),
            (10, 21, ("balanced", 2, False), True),
            (10, 7, ("balanced", 4, True), False),
            (10, 7, ("balanced", 4, False), False),
            (10, 7, ("balanced", 12, False), False),
            (10, 14, ("balanced", 2, True), False),
            (10, 14, ("balanced", 2, False), False),
            (10, 1, ("balanced", 2, True), False),
            (10, 1, ("balanced", 2, False), False),
            (10, 3, ("balanced", 5000, False), False),
            (10, 7, ("power", 0, 1), True),
            (10, 7, ("power", 3, 6), True),
            (10, 7, ("power", MOST, 1), False),
            (10, 7, ("power", MOST, 4), True),
            (10, 7, ("power", 1, 10), False),
            (10, 1, ("power", 0, 0), True),
            (10, 1, ("power", 0, 1), False),
            (10, 8, ("power", 3, 0), True),
            (10, 8, ("power", MOST, 0), True),
            (999, 5000, ("power", 1, 999), True),
            (4, 5000, ("power", 6, 4096), True),
        ):
            self.same(is_satisfied(base, denominator, (fact,)), told)

    def test_each_kind_against_the_plain_one(self):
        met = {}
        for base in (2, 3, 10, 12, 97, 1000):
            for denominator in list(range(1, 70)) + [81, 97, 243, 361, 1001]:
                for fact in SINGLE:
                    found = plain.satisfies(base, denominator, fact)
                    self.same(is_satisfied(base, denominator, (fact,)), found)
                    met.setdefault(fact, set()).add(found)
        for fact in SINGLE[:-1]:
            self.assertIn(False, met[fact])
        self.assertGreater(len([fact for fact in SINGLE if True in met[fact]]), len(SINGLE) - 3)

    def test_several(self):
        met = {True: 0, False: 0}
        for base in (2, 10, 12):
            for denominator in range(1, 70):
                for facts in SEVERAL:
                    found = expected(base, denominator, facts)
                    self.same(is_satisfied(base, denominator, facts), found)
                    met[found] += 1
        self.assertTrue(all(met.values()))

    def test_each_one_counts(self):
        facts = (
            ("period", 6), ("head", 0), ("wheels", 1), ("balanced", 2, True), ("balanced", 3, True),
            ("balanced", 6, True), ("power", 0, 1), ("power", 1, 3), ("power", 6, 1), ("power", MOST, 4),
        )
        wrong = (
            ("period", 3), ("head", 1), ("wheels", 2), ("balanced", 2, False), ("balanced", 4, True),
            ("balanced", 5, False), ("power", 0, 0), ("power", 1, 10), ("power", 6, 0), ("power", MOST, 1),
        )
        self.same(is_satisfied(10, 7, facts), True)
        for at in range(10):
            self.same(is_satisfied(10, 7, facts[:at] + wrong[at:at + 1] + facts[at + 1:]), False)

    def test_great_denominators(self):
        for base in (2, 10, 1000):
            for denominator in (4096, 4998, 4999, 5000):
                size = plain.period(base, denominator)
                self.same(is_satisfied(base, denominator, (("period", size),)), True)
                self.same(is_satisfied(base, denominator, (("period", size + 1),)), False)
                if gcd(base, denominator) == 1:
                    many = len(plain.numerators(denominator)) // size
                    self.same(is_satisfied(base, denominator, (("wheels", many), ("head", 0))), True)
                    self.same(is_satisfied(base, denominator, (("balanced", size, False),)), False)

    def test_wrong_arguments(self):
        for base in NO_INTEGERS + FAR_INTEGERS + (0, 1, 1001):
            self.fails(BadBase, base, is_satisfied, base, 0, None)
            self.fails(BadBase, base, denominators_by, base, None, 0)
        for denominator in NO_INTEGERS + FAR_INTEGERS + (0, 5001):
            self.fails(BadDenominator, denominator, is_satisfied, 10, denominator, ())
            self.fails(BadDenominator, denominator, bases_by, denominator, (), 0)


class DenominatorsBy(Case):
    def test_told_ones(self):
        self.same(denominators_by(10, (("period", 1), ("head", 0)), 1000), (1, 3, 9))
        self.same(denominators_by(10, (("period", 2), ("head", 0)), 1000), (11, 33, 99))
        self.same(denominators_by(10, (("period", 1), ("head", 1)), 100), (2, 5, 6, 10, 15, 18, 30, 45, 90))
        self.same(denominators_by(10, (("wheels", 1),), 30), (1, 7, 17, 19, 23, 29))
        self.same(denominators_by(10, (("balanced", 2, False), ("period", 6)), 100), (21, 39, 63))
        self.same(denominators_by(10, (("power", 3, 6),), 1000), (7, 14, 71, 142, 497, 994))
        self.same(denominators_by(10, (("power", 0, 1),), 4), (2, 3, 4))
        self.same(denominators_by(10, (("power", 0, 0),), 1000), (1,))
        self.same(denominators_by(10, (("head", 0), ("head", 1)), 1000), ())

    def test_against_each_denominator(self):
        for base in (2, 10, 12):
            for facts in [(fact,) for fact in SINGLE] + list(SEVERAL):
                rows = [denominator for denominator in range(1, 61) if expected(base, denominator, facts)]
                for most in (1, 2, 28, 60):
                    row = tuple([denominator for denominator in rows if denominator <= most])
                    self.same(denominators_by(base, facts, most), row)

    def test_up_to_the_greatest_most(self):
        for base in (2, 10, 1000):
            periods = {denominator: plain.quick_period(base, denominator) for denominator in range(1, 1001)
                       if gcd(base, denominator) == 1}
            for length in (1, 2, 6, 18, 100, 982):
                row = tuple([denominator for denominator, size in periods.items() if size == length])
                facts = (("period", length), ("head", 0))
                self.same(denominators_by(base, facts, 1000), row)
                self.same(denominators_by(base, facts, 999), tuple([item for item in row if item < 1000]))

    def test_most(self):
        for most in NO_INTEGERS + FAR_INTEGERS + (0, 1001, 1002, 5000):
            self.fails(BadNumber, most, denominators_by, 10, (("head", 0),), most)
        self.same(denominators_by(10, (("head", 0),), 1), (1,))
        self.same(len(denominators_by(10, (("head", 0),), 1000)), 400)


class BasesBy(Case):
    def test_told_ones(self):
        self.same(bases_by(7, (("period", 6),), 20), (3, 5, 10, 12, 17, 19))
        self.same(bases_by(7, (("wheels", 1),), 20), (3, 5, 10, 12, 17, 19))
        self.same(bases_by(7, (("head", 1),), 30), (7, 14, 21, 28))
        self.same(bases_by(12, (("head", 2),), 30), (2, 6, 10, 14, 18, 22, 26, 30))
        self.same(bases_by(1, (("wheels", 1), ("period", 1), ("head", 0)), 5), (2, 3, 4, 5))
        self.same(bases_by(999, (("power", 1, 1),), 1000), (1000,))
        self.same(bases_by(4999, (("power", 1, 1000),), 1000), (1000,))
        self.same(bases_by(7, (("balanced", 3, True), ("balanced", 2, True)), 12), (3, 5, 10, 12))
        self.same(bases_by(7, (("balanced", 3, True),), 12), (2, 3, 4, 5, 9, 10, 11, 12))
        self.same(bases_by(9, (("balanced", 3, False),), 12), (2, 4, 5, 7, 11))
        self.same(bases_by(7, (("period", 7),), 1000), ())

    def test_against_each_base(self):
        for denominator in (1, 2, 7, 9, 12, 13, 21, 28, 31):
            for facts in [(fact,) for fact in SINGLE] + list(SEVERAL):
                rows = [base for base in range(2, 31) if expected(base, denominator, facts)]
                for most in (2, 3, 17, 30):
                    self.same(bases_by(denominator, facts, most), tuple([base for base in rows if base <= most]))

    def test_up_to_the_greatest_most(self):
        for denominator in (7, 81, 499, 997, 1001):
            periods = {base: plain.quick_period(base, denominator) for base in range(2, 1001)
                       if gcd(base, denominator) == 1}
            for length in sorted(set(periods.values()))[-3:] + [1, 2]:
                row = tuple([base for base, size in periods.items() if size == length])
                self.same(bases_by(denominator, (("period", length), ("head", 0)), 1000), row)

    def test_most(self):
        for most in NO_INTEGERS + FAR_INTEGERS + (0, 1, 1001, 1002, 5000):
            self.fails(BadNumber, most, bases_by, 7, (("period", 6),), most)
        self.same(bases_by(7, (("period", 3),), 2), (2,))
        self.same(bases_by(7, (("period", 6),), 2), ())
        self.same(len(bases_by(1, (("period", 1),), 1000)), 999)


if __name__ == "__main__":
    unittest.main()
