"""The errors of the package.

Each one keeps what it was made with. The texts never show that value: it may
be of any kind and size.
"""


class WheelError(ValueError):
    """The parent of the errors about a wrong argument."""


class BadBase(WheelError):
    """A value that is no BASE."""

    def __init__(self, value):
        WheelError.__init__(self, "a base is an integer from 2 to 1000")
        self.value = value


class BadDenominator(WheelError):
    """A value that is no DENOMINATOR, or not one of the kind that is needed."""

    def __init__(self, value):
        WheelError.__init__(self, "a denominator is an integer from 1 to 5000, sometimes pure in the base")
        self.value = value


class BadFraction(WheelError):
    """A value that is no FRACTION, or not one of the kind that is needed."""

    def __init__(self, value):
        WheelError.__init__(self, "a fraction is a reduced pair (X, N), sometimes with N pure in the base")
        self.value = value


class BadDigits(WheelError):
    """A value that is no tuple of so many digits of the base."""

    def __init__(self, value):
        WheelError.__init__(self, "digits are a tuple of 1 to 400 integers from 0 to the base minus 1")
        self.value = value


class BadNumber(WheelError):
    """A value that is no integer, or none in the range that is needed."""

    def __init__(self, value):
        WheelError.__init__(self, "this is no integer of the kind that is needed")
        self.value = value


class BadPaper(WheelError):
    """A certificate with a part that is not as described."""

    def __init__(self, part):
        WheelError.__init__(self, "a part of the certificate is not as described")
        self.part = part


class BadText(WheelError):
    """A text with a place where it cannot be read."""

    def __init__(self, place):
        WheelError.__init__(self, "the text cannot be read")
        self.place = place


class BadSeen(WheelError):
    """A value that is no SEEN of the base."""

    def __init__(self, value):
        WheelError.__init__(self, "seen digits are a tuple of 1 to 20 digits of the base or None")
        self.value = value


class BadFacts(WheelError):
    """A value that is no FACTS, with the number of its first wrong item."""

    def __init__(self, number):
        WheelError.__init__(self, "facts are a tuple of 1 to 10 facts")
        self.number = number


class TooGreat(OverflowError):
    """A result that is greater than the most that is allowed."""

    def __init__(self, most):
        OverflowError.__init__(self, "the result is too great")
        self.most = most


class Nothing(LookupError):
    """There is no result for a value."""

    def __init__(self, value):
        LookupError.__init__(self, "there is no such result")
        self.value = value
