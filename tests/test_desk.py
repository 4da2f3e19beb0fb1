"""Point 10 and wheelnines/desk.py: a desk, and the lines that it answers."""

import inspect
import unittest
from fractions import Fraction
from math import gcd

from tests import plain
from tests.case import FAR_INTEGERS, NO_INTEGERS, Case
from wheelnines import desk as home
from wheelnines.desk import Desk
from wheelnines.dial import Dial
from wheelnines.errors import BadBase, BadText, Nothing

MOST = 10 ** 30

# Lines that no desk answers with anything but "no".
NO_LINES = (
    "",
    " ",
    "  ",
    "\n",
    "no",
    "done",
    "dial",
    "help",
    "Show",
    "SHOW",
    "show\n",
    "\nshow",
    " show",
    "show ",
    "show  ",
    "show 1",
    "show show",
    "sho",
    "shows",
    "digits ",
    "digits 7",
    "digits 1/7",
    " digits",
    "digits\n",
    "moves 1",
    " moves",
    "moves\n",
    "undo 1",
    "undo 0",
    "undo ",
    " undo",
    "undo\n",
    "undo\nundo",
    "undo undo",
    "turn",
    "turn ",
    "turn  1",
    " turn 1",
    "turn 1 ",
    "turn 1\n",
    "turn\n1",
    "turn 1 1",
    "turn x",
    "turn 1/7",
    "turn (1)",
    "turn 01",
    "turn 00",
    "turn 007",
    "turn -1",
    "turn +1",
    "turn 1_0",
    "turn 1.0",
    "turn 1e3",
    "turn 0x1",
    "turn True",
    "turn None",
    "turn many",
    f"turn {MOST + 1}",
    "turn " + "9" * 40,
    "turn " + "9" * 41,
    "turn 1" + "0" * 40,
    "turn 0" + "1" * 39,
    "turn " + "9" * 19000,
    "add",
    "add ",
    "add 1",
    "add 1 7",
    "add 1 / 7",
    "add 1/ 7",
    "add 1 /7",
    "add  1/7",
    " add 1/7",
    "add 1/7 ",
    "add 1/7\n",
    "add 1/7 1/7",
    "add x/7",
    "add 1/x",
    "add /7",
    "add 1/",
    "add 01/7",
    "add 1/07",
    "add -1/7",
    "add 2/4",
    "add 7/7",
    "add 8/7",
    "add 0/7",
    "add 1/1",
    "add 1/0",
    "add 0/0",
    "add 1/5001",
    "add 1/" + "9" * 40,
    "add 1/" + "9" * 41,
    "add " + "1" * 41 + "/7",
    "scale",
    "scale ",
    "scale  2",
    " scale 2",
    "scale 2 ",
    "scale 2\n",
    "scale 2 2",
    "scale x",
    "scale 02",
    "scale -2",
    "scale +2",
    "scale 1/7",
    f"scale {MOST + 1}",
    "scale 1" + "0" * 40,
    "period",
    "period ",
    "period 0",
    "period 5001",
    "period 07",
    "period -7",
    "period 7 7",
    "period 7 ",
    "period 1/7",
    "period x",
    "period 1" + "0" * 39,
    "balanced",
    "balanced 7",
    "balanced 7 ",
    "balanced 7  2",
    "balanced  7 2",
    "balanced 7 2 ",
    "balanced 7 2 2",
    "balanced 7 02",
    "balanced 07 2",
    "balanced 7 0",
    "balanced 7 1",
    "balanced 7 4",
    "balanced 7 7",
    "balanced 7 12",
    "balanced 7 -2",
    "balanced x 2",
    "balanced 7 x",
    "balanced 7,2",
    "balanced 0 2",
    "balanced 1 1",
    "balanced 1 2",
    "balanced 3 1",
    "balanced 14 2",
    "balanced 5001 2",
    "cuts",
    "cuts ",
    "cuts 0",
    "cuts 14",
    "cuts 5000",
    "cuts 5001",
    "cuts 07",
    "cuts 7 2",
    "cuts 7 ",
    "cuts\n7",
    "least",
    "least ",
    "least 0",
    "least 14",
    "least 5001",
    "least 07",
    "least 7 2",
    "wheels",
    "wheels ",
    "wheels 0",
    "wheels 14",
    "wheels 2",
    "wheels 5001",
    "wheels 07",
    "wheels 7 7",
    "wheels 1/7",
    "turn 1 add 1/7",
    "turn 1\nturn 1",
    "turn,1",
    "turn(1)",
    "__init__",
    "~",
    "!",
    "x" * 20000,
    " " * 20000,
    "\n" * 20000,
)


class DeskCase(Case):
    def shows(self, desk, base, fractions):
        """The dial of the desk shows the last one of these, and the others before its moves."""
        dial = desk.dial
        self.same((dial.base, dial.fraction, len(dial)), (base, fractions[-1], len(fractions) - 1))
        copy = dial.copy()
        for fraction in reversed(fractions[:-1]):
            copy.undo()
            self.same(copy.fraction, fraction)

    def says(self, desk, rows):
        for line, answer in rows:
            self.same((line, desk.say(line)), (line, answer))


class Creation(DeskCase):
    def test_it_begins_with_zero(self):
        for base in range(2, 1001):
            self.shows(Desk(base), base, [(0, 1)])

    def test_the_dial(self):
        desk = Desk(10)
        self.assertIs(type(desk.dial), Dial)
        self.assertIs(desk.dial, desk.dial)
        self.assertEqual(desk.dial, Dial(10, (0, 1)))
        self.assertIsNot(Desk(10).dial, desk.dial)

    def test_wrong_bases(self):
        for base in NO_INTEGERS + FAR_INTEGERS + (0, 1, 1001, 1002):
            self.fails(BadBase, base, Desk, base)
            self.fails(BadBase, base, Desk, base=base)

    def test_interface(self):
        self.assertEqual(Desk.__module__, home.__name__)
        self.assertIsInstance(vars(Desk)["dial"], property)
        self.assertEqual(list(inspect.signature(vars(Desk)["say"]).parameters), ["self", "line"])
        self.assertEqual(list(inspect.signature(Desk).parameters), ["base"])

    def test_by_name(self):
        desk = Desk(base=12)
        self.same(desk.say(line="period 7"), "6")
        self.same(desk.say(line="period 5"), "4")
        self.fails(BadText, None, desk.say, line=7)

    def test_the_dial_is_not_assigned(self):
        desk = Desk(10)
        with self.assertRaises(AttributeError):
            desk.dial = Dial(10, (1, 7))
        self.shows(desk, 10, [(0, 1)])

    def test_desks_are_apart(self):
        one, two = Desk(10), Desk(10)
        one.say("add 1/7")
        self.shows(one, 10, [(0, 1), (1, 7)])
        self.shows(two, 10, [(0, 1)])


class NoStrings(DeskCase):
    def test_each_kind(self):
        desk = Desk(10)
        desk.say("add 1/7")
        for value in NO_INTEGERS + FAR_INTEGERS + (0, 7, b"show", b"", ["show"], ("turn", 1), {"show": 1}):
            if not isinstance(value, str):
                self.fails(BadText, None, desk.say, value)
        self.shows(desk, 10, [(0, 1), (1, 7)])


class Moves(DeskCase):
    def test_told_ones(self):
        desk = Desk(10)
        self.says(desk, (
            ("show", "0/1"),
            ("digits", "( 0 )"),
            ("moves", "0"),
            ("undo", "nothing"),
            ("add 1/7", "done"),
            ("show", "1/7"),
            ("digits", "( 1 4 2 8 5 7 )"),
            ("turn 1", "done"),
            ("show", "3/7"),
            ("moves", "2"),
            ("scale 5", "done"),
            ("show", "1/7"),
            ("add 1/2", "done"),
            ("show", "9/14"),
            ("digits", "6 ( 4 2 8 5 7 1 )"),
            ("moves", "4"),
            ("undo", "done"),
            ("show", "1/7"),
            ("undo", "done"),
            ("show", "3/7"),
            ("undo", "done"),
            ("undo", "done"),
            ("moves", "0"),
            ("show", "0/1"),
            ("undo", "nothing"),
            ("moves", "0"),
        ))

    def test_moves_that_show_the_same_are_moves(self):
        desk = Desk(10)
        self.says(desk, (("turn 0", "done"), ("add 0/1", "done"), ("scale 1", "done"), ("moves", "3"), ("show", "0/1")))
        self.shows(desk, 10, [(0, 1)] * 4)

    def test_the_greatest_numbers(self):
        desk = Desk(10)
        self.says(desk, (
            ("add 1/7", "done"),
            (f"turn {MOST}", "done"),
            ("show", "4/7"),
            (f"scale {MOST}", "done"),
            ("show", "4/7"),
            (f"turn {MOST - 1}", "done"),
            (f"turn {MOST + 1}", "no"),
            (f"scale {MOST + 1}", "no"),
            ("moves", "4"),
        ))

    def test_sums_that_are_beyond(self):
        desk = Desk(10)
        self.says(desk, (
            ("add 1/71", "done"),
            ("add 1/73", "no"),
            ("show", "1/71"),
            ("moves", "1"),
            ("add 1/4999", "no"),
            ("add 1/70", "done"),
            ("show", "141/4970"),
        ))
        self.shows(desk, 10, [(0, 1), (1, 71), (141, 4970)])

    def test_against_numbers(self):
        for base in (2, 3, 10, 12, 997, 1000):
            desk = Desk(base)
            rows = [Fraction(0)]
            for step in range(400):
                line = self.line(step)
                expected = self.moved(base, rows, line)
                self.same((line, desk.say(line)), (line, expected))
                now = rows[-1]
                self.same(desk.say("show"), f"{now.numerator}/{now.denominator}")
                self.same(desk.say("moves"), str(len(rows) - 1))
            self.shows(desk, base, [(row.numerator, row.denominator) for row in rows])

    def line(self, step):
        mixed = (step * step * 7 + step * 13 + 5) % 1009
        if mixed % 5 == 0:
            return "undo"
        if mixed % 5 == 1:
            return f"turn {mixed ** (mixed % 9)}"
        if mixed % 5 == 2:
            return f"scale {mixed % 12}"
        fraction = Fraction(mixed % 11, mixed % 23 + 11)
        return f"add {fraction.numerator}/{fraction.denominator}"

    def moved(self, base, rows, line):
        word, _, rest = line.partition(" ")
        now = rows[-1]
        if word == "undo":
            if len(rows) == 1:
                return "nothing"
            rows.pop()
            return "done"
        if word == "turn":
            rest = now.numerator * pow(base, int(rest), now.denominator) % now.denominator
            rows.append(Fraction(rest, now.denominator))
        elif word == "scale":
            rows.append(now * int(rest) % 1)
        else:
            total = (now + Fraction(rest)) % 1
            if total.denominator > 5000:
                return "no"
            rows.append(total)
        return "done"


class Answers(DeskCase):
    def test_told_ones(self):
        self.says(Desk(10), (
            ("period 1", "1"),
            ("period 7", "6"),
            ("period 28", "6"),
            ("period 97", "96"),
            ("period 5000", "1"),
            ("balanced 7 2", "yes"),
            ("balanced 7 6", "yes"),
            ("balanced 21 2", "not"),
            ("balanced 21 3", "yes"),
            ("balanced 27 3", "not"),
            ("cuts 7", "2 3 6"),
            ("cuts 17", "2 4 8 16"),
            ("cuts 21", "3 6"),
            ("cuts 27", "none"),
            ("cuts 3", "none"),
            ("cuts 1", "none"),
            ("least 7", "2 3"),
            ("least 17", "2"),
            ("least 81", "none"),
            ("least 1", "none"),
            ("wheels 1", "1"),
            ("wheels 7", "1"),
            ("wheels 13", "2"),
            ("wheels 41", "8"),
            ("moves", "0"),
        ))

    def test_against_the_plain_ones(self):
        for base in (2, 10, 12, 999):
            desk = Desk(base)
            for denominator in list(range(1, 100)) + [4999, 5000]:
                self.same(desk.say(f"period {denominator}"), str(plain.period(base, denominator)))
                if gcd(base, denominator) != 1:
                    for line in (f"cuts {denominator}", f"least {denominator}", f"wheels {denominator}"):
                        self.same(desk.say(line), "no")
                    self.same(desk.say(f"balanced {denominator} 2"), "no")
                    continue
                self.same(desk.say(f"wheels {denominator}"), str(len(plain.wheels(base, denominator))))
                if denominator < 100:
                    self.check_cuts(desk, base, denominator)
            self.shows(desk, base, [(0, 1)])

    def check_cuts(self, desk, base, denominator):
        cuts = plain.all_cuts(base, denominator)
        found = [cut for cut in cuts if plain.power_sum(base, denominator, cut) % denominator == 0]
        least = [cut for cut in found if not [less for less in found if less < cut and cut % less == 0]]
        self.same(desk.say(f"cuts {denominator}"), " ".join(map(str, found)) or "none")
        self.same(desk.say(f"least {denominator}"), " ".join(map(str, least)) or "none")
        for cut in range(1, 40):
            expected = ("yes" if cut in found else "not") if cut in cuts else "no"
            self.same(desk.say(f"balanced {denominator} {cut}"), expected)

    def test_digits_of_what_is_shown(self):
        for base in (2, 10, 1000):
            desk = Desk(base)
            for numerator, denominator in ((1, 6), (5, 28), (1, 4999), (4999, 5000), (1, 2), (1, 81)):
                desk.say(f"add {numerator}/{denominator}")
                head, repetend = plain.expansion(base, (numerator, denominator))
                words = [*map(str, head), "(", *map(str, repetend), ")"]
                self.same(desk.say("digits"), " ".join(words))
                self.same(desk.say("undo"), "done")


class OtherLines(DeskCase):
    def test_they_are_answered_with_no_and_change_nothing(self):
        for start in ((), ("add 1/7", "turn 2")):
            desk = Desk(10)
            for line in start:
                desk.say(line)
            rows = [(0, 1), (1, 7), (2, 7)][:len(start) + 1]
            for line in NO_LINES:
                self.same((line[:50], desk.say(line)), (line[:50], "no"))
                self.shows(desk, 10, rows)

    def test_integers_of_40_and_41_digits(self):
        # Both are beyond what a dial takes: neither of them may end in an error.
        desk = Desk(10)
        for word in ("turn", "scale", "period", "cuts", "least", "wheels"):
            for size in (32, 39, 40, 41, 42, 400, 19000):
                self.same(desk.say(f"{word} {'1' * size}"), "no")
        for size in (1, 40, 41, 19000):
            self.same(desk.say(f"balanced 7 {'9' * size}"), "no")
            self.same(desk.say(f"balanced {'8' * size} 2"), "no")
        self.shows(desk, 10, [(0, 1)])

    def test_a_character_too_many(self):
        desk = Desk(10)
        lines = ("show", "digits", "moves", "undo", "turn 1", "add 1/7", "scale 2", "cuts 7", "balanced 7 2")
        for line in lines:
            for at in range(len(line) + 1):
                for char in " \n\t/-+_(~0":
                    if char == "0" and line[max(at - 1, 0):at] in tuple("123456789"):
                        continue
                    desk.say("add 1/3")
                    self.same((line, at, char, desk.say(line[:at] + char + line[at:])), (line, at, char, "no"))
                    self.same((desk.say("moves"), desk.say("show"), desk.say("undo")), ("1", "1/3", "done"))


class TheVeryDial(DeskCase):
    def test_moves_of_the_dial_are_seen_by_say(self):
        desk = Desk(10)
        desk.dial.add((1, 7))
        desk.dial.turn(1)
        self.says(desk, (("show", "3/7"), ("moves", "2"), ("digits", "( 4 2 8 5 7 1 )"), ("undo", "done")))
        self.shows(desk, 10, [(0, 1), (1, 7)])
        desk.dial.undo()
        self.says(desk, (("undo", "nothing"), ("show", "0/1")))

    def test_lines_are_seen_by_the_dial(self):
        desk = Desk(10)
        dial = desk.dial
        desk.say("add 1/7")
        desk.say("turn 1")
        self.same((dial.fraction, len(dial), dial.first), ((3, 7), 2, 4))
        self.same([(0, 1) in dial, (1, 7) in dial, (2, 7) in dial], [True, True, False])
        desk.say("undo")
        self.same((dial.fraction, len(dial)), ((1, 7), 1))
        desk.say("undo")
        self.fails(Nothing, 1, dial.undo)

    def test_lines_within_a_trial(self):
        desk = Desk(10)
        desk.say("add 1/7")
        with desk.dial.trial() as one:
            self.assertIs(one, desk.dial)
            self.says(desk, (("scale 3", "done"), ("undo", "done"), ("undo", "done")))
            self.says(desk, (("undo", "nothing"), ("add 1/2", "done")))
            self.same(one.fraction, (1, 2))
        self.shows(desk, 10, [(0, 1), (1, 7)])
        self.says(desk, (("moves", "1"), ("show", "1/7")))

    def test_copies_of_the_dial_are_apart(self):
        desk = Desk(10)
        copy = desk.dial.copy()
        copy.add((1, 7))
        self.says(desk, (("show", "0/1"), ("moves", "0")))


if __name__ == "__main__":
    unittest.main()
