"""What the tests share: strict comparisons and values of many kinds."""

import unittest

from wheelnines.errors import (
    BadBase,
    BadDenominator,
    BadDigits,
    BadFacts,
    BadFraction,
    BadNumber,
    BadPaper,
    BadSeen,
    BadText,
    Nothing,
    TooGreat,
)

FIELDS = {
    BadBase: "value",
    BadDenominator: "value",
    BadFraction: "value",
    BadDigits: "value",
    BadNumber: "value",
    BadPaper: "part",
    BadText: "place",
    BadSeen: "value",
    BadFacts: "number",
    TooGreat: "most",
    Nothing: "value",
}

HUGE = 10 ** 1500 - 1


def nested(depth, shell):
    inner = 7
    for _ in range(depth):
        inner = shell([inner])
    return inner


NO_INTEGERS = (
    True,
    False,
    None,
    "",
    "7",
    "1/7",
    "10\n",
    "x" * 20000,
    b"",
    b"7",
    [],
    [7],
    [1, 7],
    (),
    (7,),
    (1, 7),
    (1, (7,)),
    {},
    {7: 7},
    set(),
    {7},
    frozenset([7]),
    range(7),
    int,
    len,
    object(),
    NotImplemented,
    Ellipsis,
    nested(20, tuple),
    nested(20, list),
    tuple([None] * 20000),
)

FAR_INTEGERS = (-1, -2, -7, -10, -HUGE, HUGE, 10 ** 31, 10 ** 600)

ANY_VALUES = NO_INTEGERS + FAR_INTEGERS + (0, 1, 7, 1000, 5000, (0, 1), (1, (2, [3])))


def kinds(value):
    """value with the kind of each of its parts: True is not 1 here, and no list is a tuple."""
    if isinstance(value, (tuple, list)):
        return type(value).__name__, [kinds(item) for item in value]
    return type(value).__name__, value


class Case(unittest.TestCase):
    def same(self, told, expected):
        if told != expected or kinds(told) != kinds(expected):
            self.fail(f"{told!r:.300} is not {expected!r:.300}")

    def fails(self, error, kept, function, *args, **named):
        try:
            told = function(*args, **named)
        except (ValueError, LookupError, OverflowError, TypeError, ArithmeticError) as caught:
            if type(caught) is not error:
                self.fail(f"{type(caught).__name__} instead of {error.__name__}: {args!r:.300} {named!r:.300}")
            self.same(getattr(caught, FIELDS[error]), kept)
        else:
            self.fail(f"{told!r:.100} instead of {error.__name__}: {args!r:.300} {named!r:.300}")
