"""Point 1: how arguments are passed, and which error a wrong one raises."""

import inspect
import unittest

from tests.case import FAR_INTEGERS, HUGE, NO_INTEGERS, Case, nested
from wheelnines import blocks, counts, cyclic, dial, digits, facts, lengths
from wheelnines import numbers, pieces, residues, seen, sums, texts, wheels
from wheelnines.errors import (
    BadBase,
    BadDenominator,
    BadDigits,
    BadFacts,
    BadFraction,
    BadNumber,
    BadPaper,
    BadSeen,
    BadText,
    Nothing,
    TooGreat,
)

LAST_PLACE = 10 ** 30

ERRORS = {
    "base": BadBase,
    "denominator": BadDenominator,
    "pure denominator": BadDenominator,
    "fraction": BadFraction,
    "pure fraction": BadFraction,
    "numerator": BadNumber,
    "digits": BadDigits,
    "head": BadDigits,
    "place": BadNumber,
    "count": BadNumber,
    "cut": BadNumber,
    "paper": BadPaper,
    "by": BadNumber,
    "pure other": BadFraction,
    "most": BadNumber,
    "string": BadText,
    "length": BadNumber,
    "most denominator": BadNumber,
    "period paper": BadPaper,
    "seen": BadSeen,
    "most seen": BadNumber,
    "sure count": BadNumber,
    "size": BadNumber,
    "weight": BadNumber,
    "number": BadNumber,
    "exponent paper": BadPaper,
    "facts": BadFacts,
    "most by": BadNumber,
    "most base": BadNumber,
}

# What an error keeps, if that is not the wrong value itself.
KEPT = {"paper": "form", "string": None, "period paper": "form", "exponent paper": "form", "facts": None}

BASE_AND_DENOMINATOR = {"base": "base", "denominator": "denominator"}
PLACE = {"base": "base", "fraction": "fraction", "place": "place"}
PURE = {"base": "base", "denominator": "pure denominator"}
PURE_CUT = {**PURE, "cut": "cut"}
FRACTION_CUT = {"base": "base", "fraction": "pure fraction", "cut": "cut"}
BASE_AND_FRACTION = {"base": "base", "fraction": "fraction"}
BASE_AND_DIGITS = {"base": "base", "digits": "digits"}
WHEEL = {"base": "base", "fraction": "pure fraction"}
LENGTH = {"denominator": "denominator", "length": "length"}
ONE_AND_TWO = {"one": "denominator", "two": "denominator"}
SEEN = {"base": "base", "seen": "seen", "most": "most seen"}
WEIGHT = {"base": "base", "denominator": "denominator", "weight": "weight"}
FACTS = (("period", 6), ("head", 2), ("power", 1, 10))

# A function, the kinds of its parameters, and good arguments: the base is 10, cuts are those of 7.
FUNCTIONS = (
    (numbers.need_base, {"value": "base"}, (10,)),
    (numbers.need_denominator, {"value": "denominator"}, (7,)),
    (numbers.need_fraction, {"value": "fraction"}, ((1, 7),)),
    (numbers.reduced, {"numerator": "numerator", "denominator": "denominator"}, (-6, 21)),
    (numbers.pure_part, BASE_AND_DENOMINATOR, (10, 28)),
    (numbers.period, BASE_AND_DENOMINATOR, (10, 28)),
    (numbers.head_size, BASE_AND_DENOMINATOR, (10, 28)),
    (digits.need_digits, {"base": "base", "value": "digits"}, (10, (1, 9))),
    (digits.value_of, BASE_AND_DIGITS, (10, (1, 9))),
    (digits.expansion, BASE_AND_FRACTION, (10, (5, 28))),
    (digits.remainder_at, PLACE, (10, (5, 28), 3)),
    (digits.digit_at, PLACE, (10, (5, 28), 3)),
    (digits.digits_from, {**PLACE, "count": "count"}, (10, (5, 28), 1, 6)),
    (digits.fraction_of, {"base": "base", "head": "head", "digits": "digits"}, (10, (1,), (6, 3))),
    (pieces.pieces, FRACTION_CUT, (10, (2, 7), 3)),
    (pieces.quotient, FRACTION_CUT, (10, (2, 7), 3)),
    (pieces.is_balanced, PURE_CUT, (10, 7, 3)),
    (pieces.balance_paper, PURE_CUT, (10, 7, 3)),
    (pieces.check_balance, {**PURE_CUT, "paper": "paper"}, (10, 7, 3, ("balanced", (1, 2, 4)))),
    (pieces.cuts, PURE, (10, 7)),
    (pieces.least_cuts, PURE, (10, 7)),
    (pieces.quotients, PURE_CUT, (10, 7, 3)),
    (wheels.rotated, {**BASE_AND_DIGITS, "by": "by"}, (10, (1, 9, 8), 4)),
    (wheels.wheel, WHEEL, (10, (2, 7))),
    (wheels.wheels, PURE, (10, 13)),
    (wheels.rotation, {**WHEEL, "other": "pure other"}, (10, (1, 7), (4, 7))),
    (cyclic.multipliers, BASE_AND_DIGITS, (10, (0, 1, 0, 1))),
    (cyclic.is_cyclic, BASE_AND_DIGITS, (10, (0, 1, 0, 1))),
    (cyclic.cyclic_denominators, {"base": "base", "most": "most"}, (10, 30)),
    (dial.Dial, BASE_AND_FRACTION, (10, (5, 28))),
    (texts.fraction_text, {"fraction": "fraction"}, ((5, 28),)),
    (texts.read_fraction, {"string": "string"}, ("5/28",)),
    (texts.expansion_text, BASE_AND_FRACTION, (10, (5, 28))),
    (texts.read_expansion, {"base": "base", "string": "string"}, (10, "1 ( 7 8 5 )")),
    (residues.residues_with, LENGTH, (28, 6)),
    (residues.spread, {"denominator": "denominator"}, (28,)),
    (residues.greatest_period, {"denominator": "denominator"}, (28,)),
    (residues.bases_with, LENGTH, (28, 6)),
    (lengths.denominators_with, {"base": "base", "length": "length", "most": "most denominator"}, (10, 6, 30)),
    (lengths.period_paper, BASE_AND_DENOMINATOR, (10, 28)),
    (lengths.check_period, {**BASE_AND_DENOMINATOR, "paper": "period paper"}, (10, 28, (6, ((2, 6), (3, 2))))),
    (sums.sum_of, {"fraction": "fraction", "other": "fraction"}, ((5, 28), (1, 6))),
    (sums.sum_denominators, ONE_AND_TWO, (12, 18)),
    (sums.sum_periods, {"base": "base", **ONE_AND_TWO}, (10, 49, 98)),
    (sums.sum_example, {**ONE_AND_TWO, "denominator": "denominator"}, (12, 20, 30)),
    (counts.digit_sum, WHEEL, (10, (2, 7))),
    (counts.digit_counts, WHEEL, (10, (2, 7))),
    (counts.all_counts, PURE, (10, 13)),
    (seen.need_seen, {"base": "base", "value": "seen"}, (10, (1, None, 2))),
    (seen.fits, {"base": "base", "fraction": "fraction", "seen": "seen"}, (10, (5, 28), (1, None, 8))),
    (seen.fitting, SEEN, (10, (1, None, 8), 40)),
    (seen.simplest, SEEN, (10, (1, None, 8), 40)),
    (seen.sure_digits, {**SEEN, "count": "sure count"}, (10, (1, 7, 8), 40, 8)),
    (
        blocks.block_sum,
        {"base": "base", "size": "size", "weight": "weight", "number": "number"},
        (10, 2, -3, 142857),
    ),
    (
        blocks.keeps_remainders,
        {**BASE_AND_DENOMINATOR, "size": "size", "weight": "weight"},
        (10, 7, 3, -1),
    ),
    (blocks.exponents, WEIGHT, (10, 28, 4)),
    (blocks.exponent_paper, WEIGHT, (10, 28, 1)),
    (blocks.check_exponent, {**WEIGHT, "paper": "exponent paper"}, (10, 28, 4, ("exponent", 10))),
    (facts.need_facts, {"value": "facts"}, (FACTS,)),
    (facts.is_satisfied, {**BASE_AND_DENOMINATOR, "facts": "facts"}, (10, 28, FACTS)),
    (facts.denominators_by, {"base": "base", "facts": "facts", "most": "most by"}, (10, FACTS, 40)),
    (facts.bases_by, {"denominator": "denominator", "facts": "facts", "most": "most base"}, (28, FACTS, 40)),
)

HOMES = {
    numbers: ("need_base", "need_denominator", "need_fraction", "reduced", "pure_part", "period", "head_size"),
    digits: (
        "need_digits", "value_of", "expansion", "remainder_at", "digit_at", "digits_from", "fraction_of",
    ),
    pieces: (
        "pieces", "quotient", "is_balanced", "balance_paper", "check_balance", "cuts", "least_cuts", "quotients",
    ),
    wheels: ("rotated", "wheel", "wheels", "rotation"),
    cyclic: ("multipliers", "is_cyclic", "cyclic_denominators"),
    dial: ("Dial",),
    texts: ("fraction_text", "read_fraction", "expansion_text", "read_expansion"),
    residues: ("residues_with", "spread", "greatest_period", "bases_with"),
    lengths: ("denominators_with", "period_paper", "check_period"),
    sums: ("sum_of", "sum_denominators", "sum_periods", "sum_example"),
    counts: ("digit_sum", "digit_counts", "all_counts"),
    seen: ("need_seen", "fits", "fitting", "simplest", "sure_digits"),
    blocks: ("block_sum", "keeps_remainders", "exponents", "exponent_paper", "check_exponent"),
    facts: ("need_facts", "is_satisfied", "denominators_by", "bases_by"),
}

NO_FRACTIONS = (
    *[value for value in NO_INTEGERS if value != (1, 7)],
    *FAR_INTEGERS,
    7,
    "1/7",
    [1, 7],
    (1,),
    (1, 7, 1),
    (1, 7, 7, 7),
    ((1, 7),),
    ((1, 7), 7),
    (1, (7,)),
    ([1], [7]),
    ("1", 7),
    (1, "7"),
    (b"1", 7),
    (None, 7),
    (1, None),
    (None, None),
    (True, 7),
    (1, True),
    (False, 1),
    (0, True),
    (False, True),
    (-1, 7),
    (7, 7),
    (8, 7),
    (1, 1),
    (1, 0),
    (0, 0),
    (-1, -7),
    (1, -7),
    (0, -1),
    (0, 2),
    (0, 7),
    (2, 4),
    (3, 9),
    (35, 49),
    (1, 5001),
    (5000, 5001),
    (1, HUGE),
    (HUGE, 7),
    (-HUGE, 7),
    (HUGE, HUGE),
    {1: 7, 7: 1},
    {0, 1},
    range(0, 2),
)

NO_HEADS = (
    *[value for value in NO_INTEGERS if value not in ((), (7,), (1, 7))],
    *FAR_INTEGERS,
    7,
    "142857",
    b"142857",
    [1, 4, 2],
    (10,),
    (-1,),
    (1, 2, 10),
    (10, 1, 2),
    (1, -1, 2),
    (1, True),
    (False,),
    (1, None),
    (None,),
    ("1",),
    (1, "2"),
    ((1,), 2),
    (1, (2,)),
    ([1],),
    (1, HUGE),
    (-HUGE,),
    (0,) * 401,
    (9,) * 401,
    (1,) * 5000,
    range(5),
    {1: 2},
)

ODD_INTEGERS = NO_INTEGERS + FAR_INTEGERS


def is_row(value):
    """Whether this is a tuple of 1 to 10 items: as FACTS it is refused by the number of an item."""
    return isinstance(value, tuple) and 1 <= len(value) <= 10


# Pairs of an integer and a tuple, of which the first may be a period, are no wrong forms of its certificate.
NO_PAPERS = tuple([value for value in ODD_INTEGERS if value != (1, (7,))])

# A None in a tuple is no digit, but may be SEEN.
NO_HEADS_OR_NONE = tuple([value for value in NO_HEADS if value not in ((1, None), (None,))])

NO_PURE_FRACTIONS = NO_FRACTIONS + ((1, 2), (1, 5), (3, 10), (1, 14), (1, 35), (13, 14), (1, 5000), (2499, 4998))

WRONG = {
    "base": ODD_INTEGERS + (0, 1, 1001, 1002, 5000),
    "denominator": ODD_INTEGERS + (0, 5001, 5002, 10000),
    "pure denominator": ODD_INTEGERS + (0, 5001, 5003, 2, 4, 5, 6, 10, 14, 35, 70, 4998, 5000),
    "fraction": NO_FRACTIONS,
    "pure fraction": NO_PURE_FRACTIONS,
    "pure other": NO_PURE_FRACTIONS + ((0, 1), (1, 3), (2, 13), (1, 21), (1, 49), (4998, 4999)),
    "numerator": NO_INTEGERS,
    "digits": NO_HEADS + ((),),
    "head": NO_HEADS,
    "place": ODD_INTEGERS + (LAST_PLACE + 1, LAST_PLACE + 2, 2 * LAST_PLACE),
    "count": ODD_INTEGERS + (401, 402, LAST_PLACE),
    "cut": ODD_INTEGERS + (0, 1, 4, 5, 7, 8, 9, 12, 18, 600),
    "by": ODD_INTEGERS + (LAST_PLACE + 1, LAST_PLACE + 2, 2 * LAST_PLACE),
    "most": ODD_INTEGERS + (0, 401, 402, 5000),
    "string": (*[value for value in ODD_INTEGERS if not isinstance(value, str)], 0, 7, ("1/7",), ["( 1 )"], b"1/7"),
    "length": ODD_INTEGERS + (0, 5001, 5002),
    "most denominator": ODD_INTEGERS + (0, 5001, 5002),
    "period paper": NO_PAPERS,
    "seen": NO_HEADS_OR_NONE + ((), (None,) * 21, (0,) * 21, (None, 10), (None, True), [None], (None, ())),
    "most seen": ODD_INTEGERS + (0, 201, 202),
    "sure count": ODD_INTEGERS + (61, 62, 400),
    "size": ODD_INTEGERS + (0, 401, 402),
    "weight": NO_INTEGERS + (1001, 1002, -1001, -1002, HUGE, -HUGE),
    "number": NO_INTEGERS + (-1, -HUGE, HUGE, 10 ** 60 + 1, 10 ** 60 + 2),
    "exponent paper": NO_PAPERS,
    "facts": (*[value for value in ODD_INTEGERS if not is_row(value)], (), [], list(FACTS), FACTS * 4, (None,) * 11),
    "most by": ODD_INTEGERS + (0, 1001, 1002),
    "most base": ODD_INTEGERS + (0, 1, 1001, 1002),
}

# For pairs of wrong arguments: of each kind one value that is no integer and some that nearly fit.
SOME_WRONG = {
    "base": (True, "10", 1, 1001),
    "denominator": (False, None, 0, 5001),
    "pure denominator": (False, None, 0, 5001, 14),
    "fraction": ([1, 7], (2, 4), (1, 5001)),
    "pure fraction": ([1, 7], (2, 4), (1, 14)),
    "numerator": (True, "7"),
    "digits": ((), (10,), [1], (1,) * 401),
    "head": (None, (10,), [1], (1,) * 401),
    "place": (None, -1, LAST_PLACE + 1),
    "count": ("6", -1, 401),
    "cut": ((2,), 1, 4, 12),
    "paper": (None, ("balanced",), ("balanced", (1, 2, 5)), ("unbalanced", 7, 1)),
    "by": (None, True, -1, LAST_PLACE + 1),
    "pure other": ([1, 7], (2, 4), (1, 14), (1, 13)),
    "most": (None, False, 0, 401),
    "string": (None, 7, b"1/7"),
    "length": (None, True, 0, 5001),
    "most denominator": ("7", False, 0, 5001),
    "period paper": (None, (6,), (True, ()), (7, ()), (6, ()), (12, ((2, 1), (3, 4)))),
    "seen": (None, (), (10,), (True,), [1], (None,) * 21),
    "most seen": ("7", True, 0, 201),
    "sure count": (None, False, -1, 61),
    "size": ("3", True, 0, 401),
    "weight": (None, False, -1001, 1001),
    "number": ("7", True, -1, 10 ** 60 + 1),
    "exponent paper": (None, ("exponent",), ("exponent", 3), ("exponent", True), ("never", ())),
    "facts": (None, (), [("head", 0)], FACTS * 4),
    "most by": ("7", True, 0, 1001),
    "most base": ("7", True, 1, 1001),
}


def replaced(args, at, value):
    return args[:at] + (value,) + args[at + 1:]


class Passing(Case):
    def test_names_of_the_parameters(self):
        for function, parameters, _ in FUNCTIONS:
            self.assertEqual(list(inspect.signature(function).parameters), list(parameters), function.__name__)

    def test_defined_in_its_file(self):
        for module, names in HOMES.items():
            for name in names:
                self.assertEqual(getattr(module, name).__module__, module.__name__, name)
        self.assertEqual(sum([len(names) for names in HOMES.values()]), len(FUNCTIONS))

    def test_by_position_and_by_name(self):
        for function, parameters, args in FUNCTIONS:
            expected = function(*args)
            named = dict(zip(parameters, args))
            self.same(function(**named), expected)
            self.same(function(**dict(reversed(list(named.items())))), expected)
            for many in range(len(args)):
                rest = dict(list(named.items())[many:])
                self.same(function(*args[:many], **rest), expected)

    def test_equal_calls_return_equal_results(self):
        for function, _, args in FUNCTIONS:
            first = function(*args)
            for other, _, others in FUNCTIONS:
                other(*others)
            self.same(function(*args), first)

    def test_equal_calls_after_errors(self):
        for function, parameters, args in FUNCTIONS:
            first = function(*args)
            for at, kind in enumerate(parameters.values()):
                for value in SOME_WRONG[kind]:
                    with self.assertRaises((ValueError, LookupError, OverflowError)):
                        function(*replaced(args, at, value))
            self.same(function(*args), first)

    def test_arguments_are_not_changed(self):
        paper = ["balanced", [1, 2, 4]]
        self.fails(BadPaper, "form", pieces.check_balance, 10, 7, 3, paper)
        self.assertEqual(paper, ["balanced", [1, 2, 4]])
        remainders = [1, 2, 4]
        self.fails(BadPaper, "balanced", pieces.check_balance, 10, 7, 3, ("balanced", remainders))
        self.assertEqual(remainders, [1, 2, 4])
        fraction = [2, 14]
        self.fails(BadFraction, [2, 14], numbers.need_fraction, fraction)
        self.assertEqual(fraction, [2, 14])


class GreatestArguments(Case):
    def test_of_the_second_half(self):
        weights = (-1000, 1000)
        self.same(residues.residues_with(5000, 5000), ())
        self.same(residues.bases_with(5000, 5000), ())
        self.same(residues.greatest_period(5000), 500)
        self.same(sum([many for _, many in residues.spread(5000)]), 2000)
        self.same(lengths.denominators_with(1000, 5000, 5000), ())
        self.same(lengths.check_period(1000, 5000, lengths.period_paper(1000, 5000)), 1)
        self.same(sums.sum_of((4999, 5000), (4999, 5000)), (2499, 2500))
        self.same(sums.sum_denominators(5000, 5000)[-1], 2500)
        self.same(sums.sum_periods(1000, 5000, 5000), (1,))
        self.fails(Nothing, 5000, sums.sum_example, 5000, 5000, 5000)
        self.same(sum([many for _, many in counts.all_counts(1000, 4999)]), 4998)
        self.same(counts.digit_sum(999, (4999, 5000)) > 0, True)
        self.same(seen.fits(1000, (4999, 5000), (999, 800) + (0,) * 18), True)
        self.same(seen.fitting(1000, (999,) * 20, 200), ())
        self.same(seen.simplest(1000, (999,) * 20, 200), None)
        self.same(seen.sure_digits(1000, (500,) + (None,) * 19, 200, 60), (500,) + (0,) * 59)
        for weight in weights:
            self.same(blocks.block_sum(1000, 400, weight, 10 ** 60), 10 ** 60)
            self.same(blocks.keeps_remainders(1000, 5000, 400, weight), False)
            self.same(blocks.exponents(1000, 5000, weight), {-1000: None, 1000: (1, 0)}[weight])
        self.same(blocks.exponent_paper(1000, 5000, -1000), ("never", (1000, 0, 0)))
        self.same(blocks.check_exponent(999, 5000, 1, ("exponent", 10000)), "exponent")
        self.same(facts.is_satisfied(1000, 5000, (("power", LAST_PLACE, 4999), ("head", 20)) * 5), False)
        self.same(facts.denominators_by(1000, (("wheels", 5000),), 1000), ())
        self.same(facts.bases_by(5000, (("balanced", 5000, True),) * 10, 1000), ())


class WrongArguments(Case):
    def test_one_wrong_argument(self):
        for function, parameters, args in FUNCTIONS:
            for at, kind in enumerate(parameters.values()):
                for value in WRONG.get(kind, ()):
                    self.fails(ERRORS[kind], KEPT.get(kind, value), function, *replaced(args, at, value))

    def test_one_wrong_argument_by_name(self):
        for function, parameters, args in FUNCTIONS:
            for name, kind in parameters.items():
                for value in WRONG.get(kind, ()):
                    named = {**dict(zip(parameters, args)), name: value}
                    self.fails(ERRORS[kind], KEPT.get(kind, value), function, **named)

    def test_the_error_of_the_earliest_wrong_argument(self):
        for function, parameters, args in FUNCTIONS:
            listed = list(parameters.values())
            for at, kind in enumerate(listed):
                for later in range(at + 1, len(listed)):
                    for value in SOME_WRONG[kind]:
                        for other in SOME_WRONG[listed[later]]:
                            both = replaced(replaced(args, at, value), later, other)
                            self.fails(ERRORS[kind], KEPT.get(kind, value), function, *both)

    def test_all_arguments_wrong_from_one_on(self):
        for function, parameters, args in FUNCTIONS:
            listed = list(parameters.values())
            for at, kind in enumerate(listed):
                wrong = args[:at] + tuple([SOME_WRONG[other][0] for other in listed[at:]])
                self.fails(ERRORS[kind], KEPT.get(kind, wrong[at]), function, *wrong)

    def test_the_earliest_one_also_by_name_in_another_order(self):
        for function, parameters, args in FUNCTIONS:
            listed = list(parameters.items())
            for at, (_, kind) in enumerate(listed):
                wrong = args[:at] + tuple([SOME_WRONG[other][0] for _, other in listed[at:]])
                named = dict(reversed(list(zip(parameters, wrong))))
                self.fails(ERRORS[kind], KEPT.get(kind, wrong[at]), function, **named)


class ConditionsTogetherWithEarlierArguments(Case):
    def test_digits_of_the_base(self):
        self.same(digits.need_digits(10, (9,)), (9,))
        self.fails(BadDigits, (9,), digits.need_digits, 9, (9,))
        self.fails(BadDigits, (9,), digits.value_of, 9, (9,))
        self.same(digits.value_of(3, (2, 2)), 8)
        self.fails(BadDigits, (2, 2), digits.value_of, 2, (2, 2))
        self.fails(BadDigits, (2,), digits.fraction_of, 2, (2,), (2, 3))
        self.fails(BadDigits, (2, 3), digits.fraction_of, 3, (2,), (2, 3))
        self.fails(BadDigits, (1000,), digits.need_digits, 1000, (1000,))

    def test_pure_comes_before_the_cut(self):
        for cut in ("no cut", 4, 6):
            self.fails(BadDenominator, 14, pieces.is_balanced, 10, 14, cut)
            self.fails(BadDenominator, 14, pieces.balance_paper, 10, 14, cut)
            self.fails(BadDenominator, 14, pieces.check_balance, 10, 14, cut, None)
            self.fails(BadDenominator, 14, pieces.quotients, 10, 14, cut)
            self.fails(BadFraction, (1, 14), pieces.pieces, 10, (1, 14), cut)
            self.fails(BadFraction, (1, 14), pieces.quotient, 10, (1, 14), cut)

    def test_pure_depends_on_the_base(self):
        self.same(pieces.cuts(3, 14), (2, 6))
        self.fails(BadDenominator, 14, pieces.cuts, 10, 14)
        self.fails(BadDenominator, 7, pieces.cuts, 14, 7)
        self.fails(BadDenominator, 7, pieces.least_cuts, 7, 7)

    def test_cuts_depend_on_the_base(self):
        self.same(pieces.is_balanced(10, 7, 6), True)
        self.fails(BadNumber, 6, pieces.is_balanced, 9, 7, 6)
        self.fails(BadNumber, 2, pieces.is_balanced, 8, 7, 2)
        self.same(pieces.is_balanced(9, 7, 3), True)

    def test_of_one_fraction_the_error_that_is_listed_first(self):
        # All of them are BadFraction of the same value: not a fraction, not pure, another denominator.
        for other in ((2, 4), (1, 14), (1, 13)):
            self.fails(BadFraction, (1, 14), wheels.rotation, 10, (1, 14), other)
            self.fails(BadFraction, other, wheels.rotation, 10, (1, 7), other)
        self.fails(BadFraction, (1, 7), wheels.rotation, 7, (1, 7), (2, 7))
        self.fails(BadFraction, (1, 7), wheels.wheel, 14, (1, 7))
        self.fails(BadDenominator, 7, wheels.wheels, 7, 7)

    def test_digits_of_the_base_in_wheels_and_texts(self):
        self.fails(BadDigits, (9,), wheels.rotated, 9, (9,), -1)
        self.fails(BadNumber, -1, wheels.rotated, 10, (9,), -1)
        self.fails(BadDigits, (0, 2), cyclic.multipliers, 2, (0, 2))
        self.fails(BadDigits, (0, 2), cyclic.is_cyclic, 2, (0, 2))
        self.fails(BadText, 0, texts.read_expansion, 9, "9 ( 1 )")
        self.same(texts.read_expansion(10, "9 ( 0 )"), (9, 10))

    def test_errors_of_results_come_last(self):
        self.fails(BadBase, 1, cyclic.multipliers, 1, (0,))
        self.fails(Nothing, (0,), cyclic.multipliers, 2, (0,))
        self.fails(BadBase, None, texts.read_expansion, None, "( 9 )")
        self.fails(Nothing, (9,), texts.read_expansion, 10, "( 9 )")
        self.fails(BadText, 3, texts.read_expansion, 10, "( 9 ) ")
        self.fails(TooGreat, 5000, texts.read_expansion, 10, "( 0 0 0 1 )")
        self.fails(Nothing, (9,), digits.fraction_of, 10, (9,), (9,))
        self.fails(BadDigits, (9, 10), digits.fraction_of, 10, (9,), (9, 10))
        self.fails(TooGreat, 5000, digits.fraction_of, 10, (), (0, 0, 0, 1))
        self.fails(BadDigits, [0, 0, 0, 1], digits.fraction_of, 10, (), [0, 0, 0, 1])
        self.fails(Nothing, 2, pieces.quotients, 10, 63, 2)
        self.fails(BadNumber, 4, pieces.quotients, 10, 63, 4)

    def test_deep_values(self):
        for shell in (tuple, list):
            deep = nested(20, shell)
            self.fails(BadBase, deep, numbers.need_base, deep)
            self.fails(BadFraction, (deep, 7), numbers.need_fraction, (deep, 7))
            self.fails(BadDigits, (1, deep), digits.need_digits, 10, (1, deep))
            self.fails(BadPaper, "balanced", pieces.check_balance, 10, 7, 3, ("balanced", deep))


if __name__ == "__main__":
    unittest.main()
