"""Fractions and expansions as texts."""

from wheelnines.digits import MOST_DIGITS, expansion, fraction_of
from wheelnines.errors import BadText
from wheelnines.numbers import need_base, need_fraction

MOST_LENGTH = 40


def need_string(value):
    """Fail unless the value is a string."""
    if not isinstance(value, str):
        raise BadText(None)


def run_size(text):
    """The number of decimal digits at the beginning of the text."""
    size = 0
    while size < len(text) and text[size] in "0123456789":
        size += 1
    return size


def integer_in(text):
    """The integer that the text is, or None if it is none as texts have them."""
    if not 1 <= len(text) <= MOST_LENGTH or run_size(text) != len(text):
        return None
    if len(text) > 1 and text[0] == "0":
        return None
    return int(text)


def fraction_text(fraction):
    """The text of a FRACTION."""
    numerator, denominator = need_fraction(fraction)
    return f"{numerator}/{denominator}"


def read_fraction(string):
    """The FRACTION that has this text."""
    need_string(string)
    size = run_size(string)
    numerator = integer_in(string[:size])
    if numerator is None:
        raise BadText(0)
    if string[size:size + 1] != "/":
        raise BadText(1)
    denominator = integer_in(string[size + 1:])
    if denominator is None:
        raise BadText(2)
    return need_fraction((numerator, denominator))


def expansion_text(base, fraction):
    """The text of the expansion: the digits that repeat stand in parentheses."""
    head, repetend = expansion(base, fraction)
    words = [str(digit) for digit in head] + ["("] + [str(digit) for digit in repetend] + [")"]
    return " ".join(words)


def digits_in(base, words):
    """The tuple of the digits at the beginning of the words, at most 400."""
    row = []
    for word in words[:MOST_DIGITS]:
        digit = integer_in(word)
        if digit is None or digit >= base:
            break
        row.append(digit)
    return tuple(row)


def need_word(words, at, word):
    """Fail unless this word stands there: there may be another one or none."""
    if words[at:at + 1] != [word]:
        raise BadText(at)


def read_expansion(base, string):
    """The FRACTION that has the digits of this text."""
    need_base(base)
    need_string(string)
    words = string.split(" ")
    head = digits_in(base, words)
    start = len(head) + 1
    need_word(words, start - 1, "(")
    repetend = digits_in(base, words[start:])
    if len(repetend) == 0:
        raise BadText(start)
    end = start + len(repetend)
    need_word(words, end, ")")
    if len(words) > end + 1:
        raise BadText(end + 1)
    return fraction_of(base, head, repetend)
