"""Point 10 and wheelnines/dial.py: moves of a dial, how they are taken back, trials."""

import contextlib
import inspect
import unittest
from fractions import Fraction
from unittest import mock

from tests import plain
from tests.case import ANY_VALUES, FAR_INTEGERS, HUGE, NO_INTEGERS, Case
from wheelnines import dial as home
from wheelnines.dial import Dial, under
from wheelnines.errors import BadBase, BadFraction, BadNumber, Nothing, TooGreat

MOST = 10 ** 30
FAR = (10 ** 6, 10 ** 18 + 7, MOST - 1, MOST)
STARTS = ((0, 1), (1, 2), (1, 3), (1, 7), (5, 28), (3, 10), (1, 13), (11, 12), (1, 4999), (4999, 5000))

METHODS = {
    "turn": ["self", "many"],
    "add": ["self", "other"],
    "scale": ["self", "times"],
    "__call__": ["self", "place"],
    "undo": ["self", "many"],
    "copy": ["self"],
    "trial": ["self"],
    "__len__": ["self"],
}


class Model:
    """A dial the plain way: numbers instead of pairs, and each one that was shown."""

    def __init__(self, base, fraction):
        self.base = base
        self.rows = [Fraction(*fraction)]

    def turn(self, many):
        now = self.rows[-1]
        rest = now.numerator * pow(self.base, many, now.denominator) % now.denominator
        self.rows.append(Fraction(rest, now.denominator))

    def add(self, other):
        total = self.rows[-1] + Fraction(*other)
        self.rows.append(total - 1 if total >= 1 else total)

    def scale(self, times):
        self.rows.append(self.rows[-1] * times % 1)

    def undo(self, many):
        self.rows = self.rows[:-many]

    def pairs(self):
        return [(row.numerator, row.denominator) for row in self.rows]


class DialCase(Case):
    def shows(self, dial, base, fractions):
        """The dial shows the last one of these, and the others before its moves."""
        before = dial.copy()
        self.same(dial.base, base)
        self.same(dial.fraction, fractions[-1])
        self.same(dial.first, base * fractions[-1][0] // fractions[-1][1])
        self.same(len(dial), len(fractions) - 1)
        for fraction in fractions:
            self.same(fraction in dial, True)
        for left in range(len(fractions) - 1, 0, -1):
            before.undo()
            self.same(before.fraction, fractions[left - 1])
            self.same(len(before), left - 1)
        self.fails(Nothing, 1, before.undo)
        self.same(len(dial), len(fractions) - 1)


class Interface(Case):
    def test_each_method_stands_in_the_class(self):
        for name, parameters in METHODS.items():
            self.assertIn(name, vars(Dial))
            self.assertEqual(list(inspect.signature(vars(Dial)[name]).parameters), parameters)
        for name in ("__init__", "__eq__", "__contains__"):
            self.assertIn(name, vars(Dial))
        for name in ("base", "fraction", "first"):
            self.assertIsInstance(vars(Dial)[name], property)
        self.assertEqual((Dial.__module__, under.__module__), (home.__name__, home.__name__))

    def test_by_position_and_by_name(self):
        for dial in (Dial(10, (1, 7)), Dial(base=10, fraction=(1, 7)), Dial(fraction=(1, 7), base=10)):
            self.same((dial.base, dial.fraction, dial.first), (10, (1, 7), 1))
            dial.turn(many=1)
            dial.add(other=(1, 7))
            dial.scale(times=3)
            self.same(dial(place=1), dial(1))
            self.same((dial.fraction, len(dial)), ((5, 7), 3))
            dial.undo(many=2)
            self.same((dial.fraction, len(dial)), ((3, 7), 1))
        self.same(under(action=len, manager=Dial(10, (1, 7)).trial()), 0)
        self.same(inspect.signature(under).parameters.keys() == {"manager", "action"}, True)
        self.same(list(inspect.signature(under).parameters), ["manager", "action"])

    def test_many_is_passed_by_name_only(self):
        dial = Dial(10, (1, 7))
        dial.turn(1)
        with self.assertRaises(TypeError):
            dial.undo(1)
        self.same((dial.fraction, len(dial)), ((3, 7), 1))

    def test_calls_without_a_result(self):
        dial = Dial(10, (1, 7))
        for told in (dial.turn(1), dial.add((1, 3)), dial.scale(2), dial.undo(), dial.undo(many=2)):
            self.same(told, None)

    def test_properties_are_not_assigned(self):
        dial = Dial(10, (1, 7))
        for name, value in (("base", 2), ("fraction", (1, 3)), ("first", 5)):
            with self.assertRaises(AttributeError):
                setattr(dial, name, value)
        self.same((dial.base, dial.fraction, dial.first), (10, (1, 7), 1))


class Creation(DialCase):
    def test_good_ones(self):
        for base in (2, 3, 10, 999, 1000):
            for fraction in plain.fractions_up_to(12) + list(STARTS):
                self.shows(Dial(base, fraction), base, [fraction])

    def test_wrong_bases(self):
        for base in NO_INTEGERS + FAR_INTEGERS + (0, 1, 1001):
            self.fails(BadBase, base, Dial, base, (1, 7))
            self.fails(BadBase, base, Dial, base, (2, 4))

    def test_wrong_fractions(self):
        for fraction in ANY_VALUES + ((2, 4), (7, 7), (0, 7), (1, 5001), (True, 7), (0, True), [1, 7], "1/7"):
            if fraction not in ((0, 1), (1, 7)):
                self.fails(BadFraction, fraction, Dial, 10, fraction)

    def test_dials_are_apart(self):
        one = Dial(10, (1, 7))
        two = Dial(10, (1, 7))
        one.turn(1)
        self.shows(one, 10, [(1, 7), (3, 7)])
        self.shows(two, 10, [(1, 7)])


class Moves(DialCase):
    def test_told_turns(self):
        for many, fraction in ((0, (1, 7)), (1, (3, 7)), (2, (2, 7)), (5, (5, 7)), (6, (1, 7)), (MOST, (4, 7))):
            dial = Dial(10, (1, 7))
            dial.turn(many)
            self.shows(dial, 10, [(1, 7), fraction])
        dial = Dial(10, (1, 6))
        dial.turn(1)
        self.shows(dial, 10, [(1, 6), (2, 3)])
        dial = Dial(10, (1, 2))
        dial.turn(1)
        self.shows(dial, 10, [(1, 2), (0, 1)])
        dial.turn(MOST)
        self.shows(dial, 10, [(1, 2), (0, 1), (0, 1)])

    def test_told_sums(self):
        for one, two, total in (
            ((1, 7), (2, 7), (3, 7)),
            ((1, 7), (6, 7), (0, 1)),
            ((5, 7), (6, 7), (4, 7)),
            ((1, 2), (1, 2), (0, 1)),
            ((1, 2), (1, 3), (5, 6)),
            ((1, 2), (5, 6), (1, 3)),
            ((0, 1), (0, 1), (0, 1)),
            ((0, 1), (4999, 5000), (4999, 5000)),
            ((1, 70), (1, 71), (141, 4970)),
            ((1, 6), (1, 10), (4, 15)),
        ):
            dial = Dial(10, one)
            dial.add(two)
            self.shows(dial, 10, [one, total])
            dial = Dial(10, two)
            dial.add(one)
            self.shows(dial, 10, [two, total])

    def test_told_products(self):
        for fraction, times, product in (
            ((1, 7), 0, (0, 1)),
            ((1, 7), 1, (1, 7)),
            ((1, 7), 6, (6, 7)),
            ((1, 7), 7, (0, 1)),
            ((3, 7), 5, (1, 7)),
            ((1, 6), 2, (1, 3)),
            ((1, 6), 9, (1, 2)),
            ((0, 1), MOST, (0, 1)),
            ((1, 7), MOST, (1, 7)),
            ((1, 3), MOST, (1, 3)),
            ((1, 9), MOST - 1, (0, 1)),
        ):
            dial = Dial(10, fraction)
            dial.scale(times)
            self.shows(dial, 10, [fraction, product])

    def test_turns_against_the_plain_ones(self):
        for base in plain.BASES:
            for fraction in STARTS:
                for many in (0, 1, 2, 3, 10, 101) + FAR:
                    self.check(base, fraction, "turn", many)

    def test_sums_against_the_plain_ones(self):
        for one in plain.fractions_up_to(14):
            for two in plain.fractions_up_to(14):
                self.check(10, one, "add", two)

    def test_products_against_the_plain_ones(self):
        for fraction in plain.fractions_up_to(16) + list(STARTS):
            for times in (0, 1, 2, 3, 5, 10, 12, 97) + FAR:
                self.check(10, fraction, "scale", times)

    def check(self, base, fraction, move, value):
        dial = Dial(base, fraction)
        model = Model(base, fraction)
        getattr(dial, move)(value)
        getattr(model, move)(value)
        self.shows(dial, base, model.pairs())

    def test_great_sums(self):
        for one, two in (((1, 71), (1, 73)), ((1, 2), (1, 4999)), ((1, 5000), (1, 3)), ((1, 4999), (1, 5000))):
            dial = Dial(10, one)
            dial.turn(0)
            self.fails(TooGreat, 5000, dial.add, two)
            self.shows(dial, 10, [one, one])
        # The denominator of the sum counts, not the product of both.
        for one, two, total in (
            ((1, 4999), (4998, 4999), (0, 1)),
            ((1, 5000), (1, 2500), (3, 5000)),
            ((1, 2), (1, 2500), (1251, 2500)),
            ((2499, 5000), (1, 5000), (1, 2)),
            ((4999, 5000), (4999, 5000), (2499, 2500)),
            ((1, 3), (1, 1666), (1669, 4998)),
            ((1, 2), (1, 2499), (2501, 4998)),
        ):
            dial = Dial(10, one)
            dial.add(two)
            self.shows(dial, 10, [one, total])
        self.fails(TooGreat, 5000, Dial(10, (1, 3)).add, (1, 1667))
        self.fails(TooGreat, 5000, Dial(10, (1, 2)).add, (1, 2501))

    def test_the_greatest_denominators_of_sums(self):
        met = set()
        for one in range(60, 82):
            for two in range(60, 82):
                total = Fraction(1, one) + Fraction(1, two)
                dial = Dial(10, (1, one))
                met.add(total.denominator > 5000)
                if total.denominator > 5000:
                    self.fails(TooGreat, 5000, dial.add, (1, two))
                    self.shows(dial, 10, [(1, one)])
                else:
                    dial.add((1, two))
                    self.shows(dial, 10, [(1, one), (total.numerator, total.denominator)])
        self.assertEqual(met, {True, False})

    def test_first(self):
        for base in plain.BASES:
            for fraction in plain.fractions_up_to(20) + list(STARTS):
                head, repetend = plain.expansion(base, fraction)
                self.same(Dial(base, fraction).first, (head + repetend)[0])


class Calls(DialCase):
    def test_told_ones(self):
        dial = Dial(10, (1, 7))
        self.same([dial(place) for place in range(8)], [1, 4, 2, 8, 5, 7, 1, 4])
        self.same(dial(MOST), 5)
        dial.turn(1)
        self.same([dial(place) for place in range(8)], [4, 2, 8, 5, 7, 1, 4, 2])
        self.shows(dial, 10, [(1, 7), (3, 7)])

    def test_against_long_division(self):
        for base in plain.BASES:
            for fraction in plain.fractions_up_to(12) + [(1, 4999), (4999, 5000)]:
                dial = Dial(base, fraction)
                numerator, denominator = fraction
                for place in (0, 1, 2, 3, 20, 399, 400, 401) + FAR:
                    rest = numerator * pow(base, place, denominator) % denominator
                    self.same(dial(place), base * rest // denominator)
                self.shows(dial, base, [fraction])


class Undo(DialCase):
    def test_one_by_one(self):
        dial = Dial(10, (1, 7))
        dial.turn(1)
        dial.add((1, 2))
        dial.scale(3)
        rows = [(1, 7), (3, 7), (13, 14), (11, 14)]
        while len(rows) > 1:
            self.shows(dial, 10, rows)
            rows.pop()
            dial.undo()
        self.shows(dial, 10, [(1, 7)])
        self.fails(Nothing, 1, dial.undo)
        self.shows(dial, 10, [(1, 7)])

    def test_several_at_once(self):
        for many in range(1, 9):
            dial = Dial(10, (1, 7))
            model = Model(10, (1, 7))
            for times in range(8):
                dial.scale(times)
                model.scale(times)
                dial.add((1, times + 2))
                model.add((1, times + 2))
            while len(dial) >= many:
                dial.undo(many=many)
                model.undo(many)
                self.shows(dial, 10, model.pairs())
            self.fails(Nothing, many, dial.undo, many=many)
            self.shows(dial, 10, model.pairs())

    def test_all_at_once_and_one_more(self):
        for moves in range(6):
            dial = Dial(10, (1, 7))
            for _ in range(moves):
                dial.turn(1)
            rows = [(1, 7), (3, 7), (2, 7), (6, 7), (4, 7), (5, 7)][:moves + 1]
            for many in (moves + 1, moves + 2, 5000, MOST, HUGE):
                self.fails(Nothing, many, dial.undo, many=many)
                self.shows(dial, 10, rows)
            if moves > 0:
                dial.undo(many=moves)
                self.shows(dial, 10, [(1, 7)])

    def test_moves_that_show_the_same(self):
        dial = Dial(10, (1, 7))
        dial.turn(0)
        dial.turn(6)
        dial.add((0, 1))
        dial.scale(1)
        self.shows(dial, 10, [(1, 7)] * 5)
        dial.undo(many=3)
        self.shows(dial, 10, [(1, 7)] * 2)

    def test_moves_after_it(self):
        dial = Dial(10, (1, 7))
        dial.turn(1)
        dial.turn(1)
        dial.undo()
        dial.add((1, 7))
        self.shows(dial, 10, [(1, 7), (3, 7), (4, 7)])

    def test_many_moves(self):
        dial = Dial(10, (1, 7))
        for _ in range(20000):
            dial.turn(1)
        self.same(len(dial), 20000)
        self.same(dial.fraction, (2, 7))
        dial.undo(many=19999)
        self.shows(dial, 10, [(1, 7), (3, 7)])


class WrongArguments(DialCase):
    def setUp(self):
        self.dial = Dial(10, (1, 7))
        self.dial.turn(1)
        self.dial.add((1, 3))
        self.rows = [(1, 7), (3, 7), (16, 21)]

    def tearDown(self):
        self.shows(self.dial, 10, self.rows)

    def test_numbers_of_moves_and_calls(self):
        for name in ("turn", "scale", "__call__"):
            for value in NO_INTEGERS + FAR_INTEGERS + (MOST + 1, MOST + 2):
                self.fails(BadNumber, value, getattr(self.dial, name), value)

    def test_by_name(self):
        for value in (None, True, "1", -1, MOST + 1):
            self.fails(BadNumber, value, self.dial.turn, many=value)
            self.fails(BadNumber, value, self.dial.scale, times=value)
            self.fails(BadNumber, value, self.dial, place=value)
            self.fails(BadFraction, value, self.dial.add, other=value)

    def test_fractions(self):
        for value in ANY_VALUES + ((2, 4), (7, 7), (0, 7), (1, 5001), (True, 7), (0, True), [1, 7], "1/7"):
            if value not in ((0, 1), (1, 7)):
                self.fails(BadFraction, value, self.dial.add, value)

    def test_a_wrong_fraction_comes_before_a_great_sum(self):
        self.fails(BadFraction, (2, 5002), self.dial.add, (2, 5002))
        self.fails(TooGreat, 5000, self.dial.add, (1, 4999))

    def test_numbers_of_moves_to_take_back(self):
        for value in NO_INTEGERS + (0, -1, -2, -HUGE):
            self.fails(BadNumber, value, self.dial.undo, many=value)
        for value in (3, 4, 400, MOST, MOST + 1, HUGE):
            self.fails(Nothing, value, self.dial.undo, many=value)


class Copies(DialCase):
    def test_each_by_itself(self):
        one = Dial(10, (1, 7))
        one.turn(1)
        one.turn(1)
        two = one.copy()
        self.assertIsInstance(two, Dial)
        self.assertIsNot(two, one)
        self.shows(two, 10, [(1, 7), (3, 7), (2, 7)])
        one.turn(1)
        self.shows(one, 10, [(1, 7), (3, 7), (2, 7), (6, 7)])
        self.shows(two, 10, [(1, 7), (3, 7), (2, 7)])
        two.undo(many=2)
        two.add((1, 2))
        self.shows(one, 10, [(1, 7), (3, 7), (2, 7), (6, 7)])
        self.shows(two, 10, [(1, 7), (9, 14)])
        one.undo(many=3)
        self.shows(one, 10, [(1, 7)])
        self.shows(two, 10, [(1, 7), (9, 14)])

    def test_copies_of_copies_in_other_bases(self):
        for base in (2, 12, 1000):
            one = Dial(base, (5, 13))
            one.scale(3)
            two = one.copy().copy()
            one.undo()
            self.shows(one, base, [(5, 13)])
            self.shows(two, base, [(5, 13), (2, 13)])

    def test_copies_made_within_a_trial(self):
        one = Dial(10, (1, 7))
        with one.trial():
            one.turn(1)
            two = one.copy()
        self.shows(one, 10, [(1, 7)])
        self.shows(two, 10, [(1, 7), (3, 7)])
        with one.trial():
            two.turn(1)
            one.turn(2)
        self.shows(one, 10, [(1, 7)])
        self.shows(two, 10, [(1, 7), (3, 7), (2, 7)])


class Stop(Exception):
    """An error that is not the package's."""


class Trials(DialCase):
    def setUp(self):
        self.dial = Dial(10, (1, 7))
        self.dial.turn(1)
        self.dial.turn(1)
        self.rows = [(1, 7), (3, 7), (2, 7)]

    def tearDown(self):
        self.shows(self.dial, 10, self.rows)

    def test_the_dial_itself_is_given(self):
        with self.dial.trial() as one:
            self.assertIs(one, self.dial)
            one.turn(1)
            self.shows(self.dial, 10, self.rows + [(6, 7)])

    def test_moves_of_every_kind(self):
        with self.dial.trial() as one:
            one.turn(0)
            one.add((1, 3))
            one.scale(10)
            self.same(len(one), 5)
            one.undo()
            self.same(len(one), 4)

    def test_a_block_without_moves(self):
        with self.dial.trial():
            pass

    def test_moves_ahead_of_it_are_taken_back_within_it(self):
        with self.dial.trial() as one:
            one.undo()
            self.shows(one, 10, [(1, 7), (3, 7)])
        self.shows(self.dial, 10, self.rows)
        with self.dial.trial() as one:
            one.undo(many=2)
            one.add((1, 2))
            one.turn(3)
            one.scale(4)
            one.scale(5)
        self.shows(self.dial, 10, self.rows)
        with self.dial.trial() as one:
            one.turn(1)
            one.undo(many=3)
            self.fails(Nothing, 1, one.undo)

    def test_errors_pass(self):
        for error in (Stop("why"), ValueError(), KeyError(3), BadNumber(7), Nothing(7), TooGreat(5000), SystemExit()):
            with self.assertRaises(type(error)) as caught:
                with self.dial.trial() as one:
                    one.undo()
                    one.turn(5)
                    raise error
            self.assertIs(caught.exception, error)
            self.shows(self.dial, 10, self.rows)

    def test_errors_of_calls_pass(self):
        for error, action in (
            (BadNumber, lambda one: one.turn(-1)),
            (BadFraction, lambda one: one.add((2, 4))),
            (TooGreat, lambda one: one.add((1, 4999))),
            (Nothing, lambda one: one.undo(many=9)),
        ):
            with self.assertRaises(error):
                with self.dial.trial() as one:
                    one.turn(1)
                    action(one)
            self.shows(self.dial, 10, self.rows)

    def test_ends_by_return_break_and_continue(self):
        def leave(dial):
            with dial.trial() as one:
                one.turn(1)
                return one.fraction

        self.same(leave(self.dial), (6, 7))
        self.shows(self.dial, 10, self.rows)
        for _ in range(3):
            with self.dial.trial() as one:
                one.turn(1)
                continue
        for _ in range(3):
            with self.dial.trial() as one:
                one.turn(1)
                break

    def test_one_in_another(self):
        with self.dial.trial() as one:
            one.turn(1)
            with one.trial() as two:
                self.assertIs(two, self.dial)
                two.undo(many=3)
                two.scale(4)
                with two.trial() as three:
                    three.undo()
                    three.add((1, 2))
                self.shows(one, 10, [(1, 7), (4, 7)])
            self.shows(one, 10, self.rows + [(6, 7)])
            one.turn(1)
            self.shows(one, 10, self.rows + [(6, 7), (4, 7)])
            with one.trial() as two:
                two.undo(many=4)
                two.turn(1)
            self.shows(one, 10, self.rows + [(6, 7), (4, 7)])
            one.undo(many=2)
            one.undo()

    def test_two_in_one_statement(self):
        with self.dial.trial() as one, self.dial.trial() as two:
            self.assertIs(one, two)
            one.turn(1)

    def test_an_error_within_one_in_another(self):
        with self.dial.trial() as one:
            one.turn(1)
            with self.assertRaises(Stop):
                with one.trial() as two:
                    two.undo(many=2)
                    raise Stop()
            self.shows(one, 10, self.rows + [(6, 7)])

    def test_the_block_begins_later_than_the_trial_is_made(self):
        trial = self.dial.trial()
        self.dial.turn(1)
        self.dial.turn(1)
        with trial as one:
            one.undo(many=4)
        self.shows(self.dial, 10, self.rows + [(6, 7), (4, 7)])
        self.dial.undo(many=2)

    def test_moves_after_it(self):
        with self.dial.trial() as one:
            one.undo(many=2)
        self.dial.turn(1)
        self.shows(self.dial, 10, self.rows + [(6, 7)])
        self.dial.undo()

    def test_trials_of_several_dials(self):
        other = Dial(2, (1, 3))
        with self.dial.trial() as one:
            with other.trial() as two:
                one.turn(1)
                two.turn(1)
            self.shows(other, 2, [(1, 3)])
            self.shows(self.dial, 10, self.rows + [(6, 7)])
        self.shows(other, 2, [(1, 3)])


class Under(DialCase):
    def test_a_trial(self):
        dial = Dial(10, (1, 7))
        dial.turn(1)

        def action(one):
            self.assertIs(one, dial)
            one.undo()
            one.scale(6)
            return one.fraction, len(one)

        self.same(under(dial.trial(), action), ((6, 7), 1))
        self.shows(dial, 10, [(1, 7), (3, 7)])
        self.same(under(dial.trial(), lambda one: one.turn(1)), None)
        self.assertIs(under(dial.trial(), lambda one: one), dial)
        self.shows(dial, 10, [(1, 7), (3, 7)])

    def test_one_in_another(self):
        dial = Dial(10, (1, 7))

        def inner(one):
            one.turn(1)
            return one.fraction

        def outer(one):
            one.turn(1)
            return under(one.trial(), inner), one.fraction

        self.same(under(dial.trial(), outer), ((2, 7), (3, 7)))
        self.shows(dial, 10, [(1, 7)])

    def test_errors_pass(self):
        dial = Dial(10, (1, 7))

        def action(one):
            one.turn(1)
            raise Stop()

        with self.assertRaises(Stop):
            under(dial.trial(), action)
        self.shows(dial, 10, [(1, 7)])
        self.fails(BadNumber, -1, under, dial.trial(), lambda one: one.turn(-1))
        self.shows(dial, 10, [(1, 7)])

    def test_what_the_manager_gives(self):
        self.same(under(contextlib.nullcontext(5), lambda one: one + 1), 6)
        self.same(under(contextlib.nullcontext(), lambda one: one), None)

    def test_the_action_runs_within_the_block(self):
        told = []

        class Manager:
            def __enter__(self):
                told.append("enter")
                return "given"

            def __exit__(self, kind, value, trace):
                told.append(kind)

        def action(one):
            told.append(one)
            return 7

        self.same(under(Manager(), action), 7)
        self.assertEqual(told, ["enter", "given", None])
        with self.assertRaises(TypeError):
            under(Manager(), lambda one: one + 1)
        self.assertEqual(told[3:], ["enter", TypeError])

    def test_a_manager_that_keeps_errors(self):
        self.same(under(contextlib.suppress(Stop), self.stop), None)

    def stop(self, one):
        raise Stop()


class Equality(Case):
    def test_dials(self):
        for base in (2, 10, 1000):
            for other_base in (2, 10, 1000):
                for one in ((0, 1), (1, 7), (3, 7), (1, 3)):
                    for two in ((0, 1), (1, 7), (3, 7), (1, 3)):
                        told = base == other_base and one == two
                        self.same(Dial(base, one) == Dial(other_base, two), told)
                        self.same(Dial(base, one) != Dial(other_base, two), not told)

    def test_itself(self):
        dial = Dial(10, (1, 7))
        self.same(dial == dial, True)
        self.same(dial == dial.copy(), True)

    def test_moves_do_not_count(self):
        one = Dial(10, (1, 7))
        two = Dial(10, (1, 7))
        one.turn(1)
        self.same(one == two, False)
        one.turn(5)
        self.same(one == two, True)
        one.undo(many=2)
        self.same(one == two, True)
        two.add((0, 1))
        self.same(one == two, True)

    def test_other_kinds(self):
        for dial in (Dial(10, (1, 7)), Dial(10, (0, 1))):
            for value in ANY_VALUES + ((10, (1, 7)), [dial], (dial,), Dial, dial.trial(), mock.ANY):
                self.same(dial == value, False)
                self.same(dial != value, True)


class Holds(Case):
    def test_what_was_shown(self):
        dial = Dial(10, (1, 7))
        dial.turn(1)
        dial.add((1, 2))
        for fraction in ((1, 7), (3, 7), (13, 14)):
            self.same(fraction in dial, True)
            self.same(fraction not in dial, False)
        for fraction in ((2, 7), (0, 1), (1, 2), (1, 14), (7, 1), (7, 3)):
            self.same(fraction in dial, False)
        dial.undo()
        self.same([fraction in dial for fraction in ((1, 7), (3, 7), (13, 14))], [True, True, False])
        dial.turn(1)
        self.same([fraction in dial for fraction in ((1, 7), (3, 7), (2, 7))], [True, True, True])
        dial.undo(many=2)
        self.same([fraction in dial for fraction in ((1, 7), (3, 7), (2, 7))], [True, False, False])

    def test_within_and_after_a_trial(self):
        dial = Dial(10, (1, 7))
        dial.turn(1)
        with dial.trial() as one:
            one.undo()
            one.scale(4)
            self.same([fraction in one for fraction in ((1, 7), (3, 7), (4, 7))], [True, False, True])
        self.same([fraction in dial for fraction in ((1, 7), (3, 7), (4, 7))], [True, True, False])

    def test_copies(self):
        one = Dial(10, (1, 7))
        one.turn(1)
        two = one.copy()
        two.turn(1)
        self.same([(2, 7) in one, (2, 7) in two, (1, 7) in two], [False, True, True])

    def test_values_of_any_kind(self):
        dial = Dial(10, (1, 7))
        dial.scale(0)
        for value in ANY_VALUES + (mock.ANY, dial, Dial):
            if value is not mock.ANY and value in ((0, 1), (1, 7)):
                continue
            self.same(value in dial, False)

    def test_true_and_false_are_no_integers(self):
        dial = Dial(10, (1, 7))
        dial.scale(0)
        dial.add((1, 2))
        for value in ((True, 7), (False, 1), (0, True), (False, True), (True, 2), [0, 1], [1, 7], (1, 7, 0), (1,)):
            self.same(value in dial, False)
        for value in ((mock.ANY, 7), (1, mock.ANY), (mock.ANY, mock.ANY), (1, (7,)), ("1", "7"), (1, None)):
            self.same(value in dial, False)

    def test_equal_fractions_that_are_not_reduced(self):
        dial = Dial(10, (1, 2))
        dial.scale(2)
        for value in ((2, 4), (0, 2), (0, 0), (1, 1), (-1, -2)):
            self.same(value in dial, False)


class LongRuns(DialCase):
    def test_against_the_model(self):
        for base in (2, 3, 10, 12, 1000):
            self.run_both(base, STARTS[base % len(STARTS)])

    def run_both(self, base, start):
        dial = Dial(base, start)
        model = Model(base, start)
        seed = base
        for step in range(400):
            seed = (seed * 1103515245 + 12345) % 2 ** 31
            kind = seed // 65536 % 7
            value = seed // 7 % 41
            if kind in (0, 1):
                dial.turn(value)
                model.turn(value)
            elif kind in (2, 3):
                self.add_both(dial, model, value)
            elif kind == 4:
                dial.scale(value)
                model.scale(value)
            else:
                self.undo_both(dial, model, value % 6 + 1)
            self.same(dial.fraction, model.pairs()[-1])
            self.same(len(dial), len(model.rows) - 1)
            if step % 50 == 0:
                self.shows(dial, base, model.pairs())

    def add_both(self, dial, model, value):
        other = (1, value + 2)
        total = (model.rows[-1] + Fraction(*other)) % 1
        if total.denominator > 5000:
            self.fails(TooGreat, 5000, dial.add, other)
        else:
            dial.add(other)
            model.add(other)

    def undo_both(self, dial, model, many):
        if many >= len(model.rows):
            self.fails(Nothing, many, dial.undo, many=many)
        else:
            dial.undo(many=many)
            model.undo(many)


if __name__ == "__main__":
    unittest.main()
