"""A desk that answers lines about a dial and about denominators."""

from wheelnines.dial import Dial
from wheelnines.errors import BadText, Nothing, TooGreat, WheelError
from wheelnines.numbers import period
from wheelnines.pieces import cuts, is_balanced, least_cuts
from wheelnines.texts import expansion_text, fraction_text, integer_in, need_string, read_fraction
from wheelnines.wheels import wheels


def number_at(words, place):
    """The integer that a word of the line is."""
    number = integer_in(words[place])
    if number is None:
        raise BadText(place)
    return number


def joined(numbers):
    """The integers with blanks between, or the word for none."""
    if len(numbers) == 0:
        return "none"
    return " ".join([str(number) for number in numbers])


def say_turn(dial, words):
    """Turn the dial."""
    dial.turn(number_at(words, 1))
    return "done"


def say_add(dial, words):
    """Add to the dial."""
    dial.add(read_fraction(words[1]))
    return "done"


def say_scale(dial, words):
    """Scale the dial."""
    dial.scale(number_at(words, 1))
    return "done"


def say_undo(dial, _):
    """Take back one move."""
    if len(dial) == 0:
        return "nothing"
    dial.undo()
    return "done"


def say_show(dial, _):
    """The text of what the dial shows."""
    return fraction_text(dial.fraction)


def say_digits(dial, _):
    """The text of its digits."""
    return expansion_text(dial.base, dial.fraction)


def say_moves(dial, _):
    """How many moves can be taken back."""
    return str(len(dial))


def say_period(dial, words):
    """The period of a denominator."""
    return str(period(dial.base, number_at(words, 1)))


def say_balanced(dial, words):
    """Whether a denominator is balanced by a cut."""
    if is_balanced(dial.base, number_at(words, 1), number_at(words, 2)):
        return "yes"
    return "not"


def say_cuts(dial, words):
    """The cuts by which a denominator is balanced."""
    return joined(cuts(dial.base, number_at(words, 1)))


def say_least(dial, words):
    """The least ones of these cuts."""
    return joined(least_cuts(dial.base, number_at(words, 1)))


def say_wheels(dial, words):
    """How many wheels a denominator has."""
    return str(len(wheels(dial.base, number_at(words, 1))))


# How many words a line has that begins with this one.
SIZES = {
    "turn": 2,
    "add": 2,
    "scale": 2,
    "undo": 1,
    "show": 1,
    "digits": 1,
    "moves": 1,
    "period": 2,
    "balanced": 3,
    "cuts": 2,
    "least": 2,
    "wheels": 2,
}

ANSWERS = {
    "turn": say_turn,
    "add": say_add,
    "scale": say_scale,
    "undo": say_undo,
    "show": say_show,
    "digits": say_digits,
    "moves": say_moves,
    "period": say_period,
    "balanced": say_balanced,
    "cuts": say_cuts,
    "least": say_least,
    "wheels": say_wheels,
}


class Desk:
    """A dial, and the lines that it is moved and asked by."""

    def __init__(self, base):
        self._dial = Dial(base, (0, 1))

    @property
    def dial(self):
        """The very dial of the desk."""
        return self._dial

    def say(self, line):
        """The answer to a line."""
        need_string(line)
        words = line.split(" ")
        if SIZES.get(words[0]) != len(words):
            return "no"
        action = ANSWERS[words[0]]
        try:
            return action(self._dial, words)
        except (WheelError, TooGreat, Nothing):
            return "no"
