"""Point 3 and wheelnines/texts.py: fractions and expansions as texts."""

import re
import unittest
from math import gcd

from tests import plain
from tests.case import FAR_INTEGERS, NO_INTEGERS, Case
from wheelnines.digits import expansion, fraction_of
from wheelnines.errors import BadBase, BadFraction, BadText, Nothing, TooGreat
from wheelnines.texts import expansion_text, fraction_text, read_expansion, read_fraction

NO_STRINGS = tuple([value for value in NO_INTEGERS + FAR_INTEGERS + (0, 7) if not isinstance(value, str)])
GREAT_FRACTIONS = ((1, 5000), (4999, 5000), (1, 4999), (4998, 4999), (2501, 4998), (1, 4096), (1, 3125), (1234, 4913))
PRINTABLE = [chr(code) for code in range(32, 127) if code != 37] + ["\n"]


def is_text_integer(text):
    return re.fullmatch("0|[1-9][0-9]{0,39}", text) is not None


def wrong_place(base, text):
    """The number of the first word that cannot stand in the text of an expansion, None if it can be read.

    The words are one letter each here: d is a digit, x cannot stand anywhere.
    """
    letters = ""
    for word in text.split(" "):
        if word in ("(", ")"):
            letters += word
        else:
            letters += "d" if is_text_integer(word) and int(word) < base else "x"
    for number in range(len(letters)):
        if not re.fullmatch("d{0,400}([(](d{1,400}[)]?)?)?", letters[:number + 1]):
            return number
    return None if letters.endswith(")") else len(letters)


def parts(text):
    """The digits ahead of the parenthesis of a good text, and those in it."""
    head, digits = text.split("(")
    return tuple([int(word) for word in head.split()]), tuple([int(word) for word in digits[:-1].split()])


class FractionText(Case):
    def test_told_ones(self):
        self.same(fraction_text((1, 7)), "1/7")
        self.same(fraction_text((0, 1)), "0/1")
        self.same(fraction_text((10, 13)), "10/13")
        self.same(fraction_text((4999, 5000)), "4999/5000")

    def test_many(self):
        for fraction in plain.fractions_up_to(70) + list(GREAT_FRACTIONS):
            self.same(fraction_text(fraction), str(fraction[0]) + "/" + str(fraction[1]))

    def test_no_fractions(self):
        for fraction in ((2, 4), (7, 7), (0, 7), (True, 7), (0, True), [1, 7], "1/7", None, (1, 5001), (1,), 7):
            self.fails(BadFraction, fraction, fraction_text, fraction)


class ReadFraction(Case):
    def test_back(self):
        for fraction in plain.fractions_up_to(70) + list(GREAT_FRACTIONS):
            self.same(read_fraction(fraction_text(fraction)), fraction)

    def test_told_ones(self):
        self.same(read_fraction("0/1"), (0, 1))
        self.same(read_fraction("1/7"), (1, 7))
        self.same(read_fraction("4999/5000"), (4999, 5000))

    def test_no_strings(self):
        for value in NO_STRINGS + ((1, 7), b"1/7", ["1/7"]):
            self.fails(BadText, None, read_fraction, value)

    def test_wrong_numerators(self):
        for text in (
            "", "/", "/7", " ", "\n", " 1/7", "\n1/7", "a", "x/7", "-1/7", "+1/7", "(1, 7)", "_1/7", "1" * 41,
            "1" * 41 + "/7", "0" * 41, "01/7", "00/1", "00", "007/8", "0" * 39 + "1/7", "0" * 40 + "/1", "/", "//", "'",
            "1" * 20000, "0" * 20000, "/" * 20000, " " * 20000, "01", "01/07", "/07",
        ):
            self.fails(BadText, 0, read_fraction, text)

    def test_no_stroke(self):
        for text in (
            "1", "0", "1 /7", "1 7", "1.7", "1:7", "1\n/7", "1a/7", "1-7", "1\\7", "1,7", "1_0/7", "1e3/7", "9" * 40,
            "1\n", "1 ", "0x1/7", "12", "1(/7)", "2 /4",
        ):
            self.fails(BadText, 1, read_fraction, text)

    def test_wrong_denominators(self):
        for text in (
            "1/", "1//7", "1/ 7", "1/7 ", "1/7\n", "1/\n7", "1/07", "1/00", "1/007", "1/x", "1/7x", "1/-7", "1/+7",
            "1/7/1", "1/7.0", "1/" + "1" * 41, "1/" + "0" * 40, "1/" + "0" * 39 + "7", "1/7" + " " * 9000, "1/0x7",
            "0/01", "2/4 ", "1/1_0", "9" * 40 + "/", "1/7e1", "1/" + "9" * 19000,
        ):
            self.fails(BadText, 2, read_fraction, text)

    def test_texts_of_no_fractions(self):
        for numerator, denominator in (
            (0, 0), (1, 0), (0, 2), (0, 7), (1, 1), (2, 1), (2, 4), (3, 9), (7, 7), (8, 7), (1, 5001), (5000, 5001),
            (35, 49), (10 ** 39, 7), (10 ** 40 - 1, 7), (1, 10 ** 39), (1, 10 ** 40 - 1), (10 ** 40 - 2, 10 ** 40 - 1),
        ):
            self.fails(BadFraction, (numerator, denominator), read_fraction, f"{numerator}/{denominator}")

    def test_integers_with_40_and_41_digits(self):
        self.fails(BadFraction, (10 ** 39, 10 ** 39), read_fraction, "1" + "0" * 39 + "/1" + "0" * 39)
        self.fails(BadText, 2, read_fraction, "1" + "0" * 39 + "/1" + "0" * 40)
        self.fails(BadText, 0, read_fraction, "1" + "0" * 40 + "/1" + "0" * 39)
        self.fails(BadText, 0, read_fraction, "1" + "0" * 40)
        self.fails(BadText, 1, read_fraction, "1" + "0" * 39)

    def test_each_character_in_each_place(self):
        met = {0: 0, 1: 0, 2: 0, BadFraction: 0, None: 0}
        for good in ("1/7", "0/1", "10/13", "9/100"):
            for at in range(len(good) + 1):
                for char in PRINTABLE + [""]:
                    for text in (good[:at] + char + good[at:], good[:at] + char + good[at + 1:]):
                        met[self.check(text)] += 1
        self.assertTrue(all(met.values()), met)

    def check(self, text):
        """Compare with a plain reading, and tell what is wrong with the text."""
        size = len(re.match("[0-9]*", text).group())
        if not is_text_integer(text[:size]):
            place = 0
        elif not text[size:].startswith("/"):
            place = 1
        elif not is_text_integer(text[size + 1:]):
            place = 2
        else:
            pair = (int(text[:size]), int(text[size + 1:]))
            if pair[0] < pair[1] <= 5000 and gcd(*pair) == 1:
                self.same(read_fraction(text), pair)
                return None
            self.fails(BadFraction, pair, read_fraction, text)
            return BadFraction
        self.fails(BadText, place, read_fraction, text)
        return place


class ExpansionText(Case):
    def test_told_ones(self):
        for base, fraction, text in (
            (10, (1, 6), "1 ( 6 )"),
            (10, (1, 7), "( 1 4 2 8 5 7 )"),
            (10, (0, 1), "( 0 )"),
            (10, (1, 2), "5 ( 0 )"),
            (10, (1, 28), "0 3 ( 5 7 1 4 2 8 )"),
            (16, (1, 17), "( 0 15 )"),
            (1000, (1, 7), "( 142 857 )"),
            (1000, (1, 14), "71 ( 428 571 )"),
            (2, (5, 6), "1 ( 1 0 )"),
        ):
            self.same(expansion_text(base, fraction), text)

    def test_against_long_division(self):
        for base in plain.BASES:
            for fraction in plain.fractions_up_to(40) + list(GREAT_FRACTIONS):
                head, repetend = plain.expansion(base, fraction)
                expected = "".join([f"{digit} " for digit in head]) + "("
                expected += "".join([f" {digit}" for digit in repetend]) + " )"
                self.same(expansion_text(base, fraction), expected)

    def test_no_fractions(self):
        for fraction in ((2, 4), (7, 7), (True, 7), [1, 7], "1/7", None, (1, 5001)):
            self.fails(BadFraction, fraction, expansion_text, 10, fraction)
            self.fails(BadBase, 1, expansion_text, 1, fraction)


class ReadExpansion(Case):
    def check(self, base, text):
        """Compare with a plain reading, and tell the place that is wrong, or the error or None."""
        place = wrong_place(base, text)
        if place is not None:
            self.fails(BadText, place, read_expansion, base, text)
            return place
        head, digits = parts(text)
        number = plain.repeated(base, head, digits)
        if number == 1:
            self.fails(Nothing, digits, read_expansion, base, text)
            return Nothing
        if number.denominator > 5000:
            self.fails(TooGreat, 5000, read_expansion, base, text)
            return TooGreat
        self.same(read_expansion(base, text), (number.numerator, number.denominator))
        return None

    def test_back(self):
        for base in plain.BASES:
            for fraction in plain.fractions_up_to(60) + list(GREAT_FRACTIONS):
                if plain.period(base, fraction[1]) <= 400:
                    self.same(read_expansion(base, expansion_text(base, fraction)), fraction)

    def test_told_ones(self):
        for base, text, fraction in (
            (10, "( 3 )", (1, 3)),
            (10, "1 ( 6 )", (1, 6)),
            (10, "1 ( 9 )", (1, 5)),
            (10, "( 3 3 3 )", (1, 3)),
            (10, "1 6 6 ( 6 6 )", (1, 6)),
            (10, "0 0 ( 0 )", (0, 1)),
            (12, "( 11 0 )", (12, 13)),
            (1000, "499 ( 999 )", (1, 2)),
        ):
            self.same(read_expansion(base, text), fraction)

    def test_no_strings(self):
        for value in NO_STRINGS + (b"( 3 )", ["(", "3", ")"], ("(", "3", ")"), (3,)):
            self.fails(BadText, None, read_expansion, 10, value)
            self.fails(BadBase, 1, read_expansion, 1, value)

    def test_each_word_that_cannot_stand_there(self):
        for text, place in (
            ("", 0),
            (" ", 0),
            ("  ", 0),
            ("\n", 0),
            ("x", 0),
            (")", 0),
            ("()", 0),
            ("(3)", 0),
            ("10 ( 3 )", 0),
            ("-1 ( 3 )", 0),
            ("01 ( 3 )", 0),
            ("00 ( 3 )", 0),
            (" ( 3 )", 0),
            ("\n( 3 )", 0),
            ("1,2 ( 3 )", 0),
            ("1 x ( 3 )", 1),
            ("1  ( 3 )", 1),
            ("1 10 ( 3 )", 1),
            ("1 ) ( 3 )", 1),
            ("1 \n( 3 )", 1),
            ("( )", 1),
            ("( ( 3 )", 1),
            ("(  3 )", 1),
            ("( 10 )", 1),
            ("( 03 )", 1),
            ("( +3 )", 1),
            ("( x", 1),
            ("( 3 x", 2),
            ("( 3  )", 2),
            ("( 3 ( )", 2),
            ("( 3 03 )", 2),
            ("( 3 10 )", 2),
            ("( 3 )\n", 2),
            ("( 3\n)", 1),
            ("( 3 ) ", 3),
            ("( 3 ) )", 3),
            ("( 3 ) 3", 3),
            ("( 3 ) ( 3 )", 3),
            ("( 3 ) x y z", 3),
            ("1 ( 3 )  ", 4),
            ("1 2 3 ( 4 5 6 ) 7", 8),
        ):
            self.fails(BadText, place, read_expansion, 10, text)
            self.assertEqual(wrong_place(10, text), place, text)

    def test_a_word_is_missing_at_the_end(self):
        for text, many in (
            ("1", 1),
            ("1 2 3", 3),
            ("(", 1),
            ("1 (", 2),
            ("( 3", 2),
            ("1 ( 3", 3),
            ("1 2 ( 3 4 5", 6),
            ("0 " * 399 + "0", 400),
            ("0 " * 400 + "(", 401),
            ("(" + " 0" * 400, 401),
        ):
            self.fails(BadText, many, read_expansion, 10, text)
            self.assertEqual(wrong_place(10, text), many, text)

    def test_400_and_401_digits(self):
        self.same(read_expansion(10, "3 " * 400 + "( 3 )"), (1, 3))
        self.same(read_expansion(10, "(" + " 3" * 400 + " )"), (1, 3))
        self.same(read_expansion(10, "3 " * 400 + "(" + " 3" * 400 + " )"), (1, 3))
        self.same(read_expansion(1000, "333 " * 400 + "(" + " 333" * 400 + " )"), (1, 3))
        self.fails(BadText, 400, read_expansion, 10, "3 " * 401 + "( 3 )")
        self.fails(BadText, 400, read_expansion, 10, "3 " * 5000 + "( 3 )")
        self.fails(BadText, 400, read_expansion, 10, "3 " * 400 + "3")
        self.fails(BadText, 400, read_expansion, 10, "3 " * 400 + "x")
        self.fails(BadText, 400, read_expansion, 10, "3 " * 400)
        self.fails(BadText, 399, read_expansion, 10, "3 " * 399)
        self.fails(BadText, 401, read_expansion, 10, "(" + " 3" * 401 + " )")
        self.fails(BadText, 401, read_expansion, 10, "(" + " 3" * 9000 + " )")
        self.fails(BadText, 401, read_expansion, 10, "(" + " 3" * 401)
        self.fails(BadText, 801, read_expansion, 10, "3 " * 400 + "(" + " 3" * 401 + " )")
        self.fails(BadText, 802, read_expansion, 10, "3 " * 400 + "(" + " 3" * 400 + " ) 3")
        self.fails(BadText, 801, read_expansion, 10, "3 " * 400 + "(" + " 3" * 400)

    def test_digits_of_other_bases(self):
        for base in plain.BASES:
            for digit in (base - 1, base, base + 1, base * 10):
                for text in (f"0 {digit} ( 1 )", f"( 0 {digit} )", f"{digit} ( 0 )"):
                    self.check(base, text)
            self.fails(BadText, 0, read_expansion, base, f"{base} ( 0 )")
            self.fails(BadText, 1, read_expansion, base, f"( {base} )")
            self.same(read_expansion(base, f"{base - 1} ( 0 )"), (base - 1, base))

    def test_great_integers_are_no_digits(self):
        for word in ("1" * 40, "1" * 41, "1" * 5000, "1" * 19000, "0" * 19000, "0" * 40 + "1"):
            self.fails(BadText, 0, read_expansion, 1000, word + " ( 1 )")
            self.fails(BadText, 1, read_expansion, 1000, "( " + word + " )")

    def test_errors_of_the_value(self):
        for head in ("", "9 ", "9 9 9 ", "9 " * 400):
            for many in (1, 2, 400):
                self.fails(Nothing, (9,) * many, read_expansion, 10, head + "(" + " 9" * many + " )")
        self.fails(Nothing, (1, 1), read_expansion, 2, "1 ( 1 1 )")
        self.fails(Nothing, (999,), read_expansion, 1000, "( 999 )")
        self.same(read_expansion(11, "9 ( 9 )"), (9, 10))
        self.fails(TooGreat, 5000, read_expansion, 10, "( 0 0 0 1 )")
        self.fails(TooGreat, 5000, read_expansion, 10, "0 0 0 1 ( 0 )")
        self.same(read_expansion(10, "0 0 0 2 ( 0 )"), (1, 5000))
        self.fails(BadText, 6, read_expansion, 10, "( 0 0 0 1 ) ")
        self.fails(BadText, 3, read_expansion, 10, "( 9 ) 9")

    def test_texts_of_few_words(self):
        words = ("0", "1", "2", "(", ")", "")
        rows = [[]]
        met = set()
        for _ in range(6):
            rows = [row + [word] for row in rows for word in words]
            for row in rows:
                met.add(self.check(2, " ".join(row)))
        self.assertEqual(met, {0, 1, 2, 3, 4, 5, 6, Nothing, None})

    def test_each_character_in_each_place(self):
        met = set()
        for good in ("( 3 )", "1 ( 6 )", "0 9 ( 9 10 )"):
            for at in range(len(good) + 1):
                for char in PRINTABLE + [""]:
                    met.add(self.check(11, good[:at] + char + good[at:]))
                    met.add(self.check(11, good[:at] + char + good[at + 1:]))
        self.assertTrue(met >= {0, 1, 2, 3, 4, 5, None}, met)

    def test_each_word_replaced_removed_and_put_in(self):
        good = "0 3 ( 5 7 1 4 2 8 )".split(" ")
        for at in range(len(good) + 1):
            for word in ("", "0", "9", "10", "03", "(", ")", "x", "3\n", "-1", "7" * 41):
                for row in (good[:at] + [word] + good[at:], good[:at] + [word] + good[at + 1:], good[:at] + [word]):
                    self.check(10, " ".join(row))
            self.check(10, " ".join(good[:at]))
            self.check(10, " ".join(good[:at] + good[at + 1:]))
        self.same(fraction_of(10, (0, 3), (5, 7, 1, 4, 2, 8)), (1, 28))
        self.same(expansion(10, (1, 28)), ((0, 3), (5, 7, 1, 4, 2, 8)))


if __name__ == "__main__":
    unittest.main()
