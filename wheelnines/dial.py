"""A dial that shows a fraction, moves, and takes moves back."""

from math import gcd

from wheelnines.digits import digit_at, remainder_at
from wheelnines.errors import BadNumber, Nothing, TooGreat
from wheelnines.numbers import MOST_DENOMINATOR, is_integer, is_within, need_base, need_fraction, reduced

MOST_TIMES = 10 ** 30


def added(fraction, other):
    """The sum of two FRACTIONS without its integer part."""
    numerator = fraction[0] * other[1] + other[0] * fraction[1]
    denominator = fraction[1] * other[1]
    rest = numerator % denominator
    common = gcd(rest, denominator)
    if denominator // common > MOST_DENOMINATOR:
        raise TooGreat(MOST_DENOMINATOR)
    return rest // common, denominator // common


def are_two_integers(value):
    """Whether value is a pair of integers: (True, 7) equals (1, 7), but is no FRACTION."""
    if not isinstance(value, tuple) or len(value) != 2:
        return False
    return is_integer(value[0]) and is_integer(value[1])


class Trial:
    """What a with statement needs to set a dial back when its block ends."""

    def __init__(self, owner):
        self.owner = owner
        self.kept_shown = None
        self.kept_past = []

    def __enter__(self):
        # Not at creation: the dial may move between that and the block.
        self.kept_shown = self.owner._shown
        self.kept_past = list(self.owner._past)
        return self.owner

    def __exit__(self, kind, value, trace):
        self.owner._shown = self.kept_shown
        self.owner._past = self.kept_past


class Dial:
    """A base, the FRACTION that is shown, and those that were shown before each move."""

    def __init__(self, base, fraction):
        self._base = need_base(base)
        self._shown = need_fraction(fraction)
        self._past = []

    @property
    def base(self):
        """The base of the digits."""
        return self._base

    @property
    def fraction(self):
        """The FRACTION that is shown."""
        return self._shown

    @property
    def first(self):
        """Digit number 0 of the FRACTION that is shown."""
        return self._base * self._shown[0] // self._shown[1]

    def _move(self, fraction):
        """Show another FRACTION, or the same one again, so that this can be taken back."""
        self._past.append(self._shown)
        self._shown = fraction

    def turn(self, many):
        """Go on to the remainder with this number."""
        self._move(reduced(remainder_at(self._base, self._shown, many), self._shown[1]))

    def add(self, other):
        """Add a FRACTION; the integer part is dropped."""
        self._move(added(self._shown, need_fraction(other)))

    def scale(self, times):
        """Multiply by an integer; the integer part is dropped."""
        if not is_within(times, 0, MOST_TIMES):
            raise BadNumber(times)
        self._move(reduced(self._shown[0] * times, self._shown[1]))

    def __call__(self, place):
        """The digit with this number."""
        return digit_at(self._base, self._shown, place)

    def undo(self, *, many=1):
        """Take back so many moves."""
        if not is_integer(many) or many < 1:
            raise BadNumber(many)
        if many > len(self._past):
            raise Nothing(many)
        for _ in range(many):
            self._shown = self._past.pop()

    def __len__(self):
        return len(self._past)

    def copy(self):
        """A dial that shows the same and can be taken back as far."""
        other = Dial(self._base, self._shown)
        other._past = list(self._past)
        return other

    def trial(self):
        """What a with statement needs to set this dial back when its block ends."""
        return Trial(self)

    def __eq__(self, other):
        return isinstance(other, Dial) and self._base == other._base and self._shown == other._shown

    def __contains__(self, x):
        return are_two_integers(x) and (x == self._shown or x in self._past)


def under(manager, action):
    """What action returns for what the manager gives to its with statement."""
    with manager as one:
        return action(one)
