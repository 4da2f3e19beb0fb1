"""Points 3 to 9 as they are known by hand: one over 7, 13, 17, 49, 81, 97, what fails for 21 and 27."""

import unittest

from tests.case import Case
from wheelnines.cyclic import cyclic_denominators, is_cyclic, multipliers
from wheelnines.digits import expansion, value_of
from wheelnines.errors import Nothing
from wheelnines.numbers import period
from wheelnines.pieces import (
    balance_paper,
    check_balance,
    cuts,
    is_balanced,
    least_cuts,
    pieces,
    quotient,
    quotients,
)
from wheelnines.wheels import rotated, rotation, wheel, wheels

REPETENDS = {
    7: "142857",
    13: "076923",
    17: "0588235294117647",
    21: "047619",
    27: "037",
    49: "020408163265306122448979591836734693877551",
    81: "012345679",
    97: "010309278350515463917525773195876288659793814432989690721649484536082474226804123711340206185567",
}


def row(text):
    return tuple([int(char) for char in text])


class InTen(Case):
    def test_expansions(self):
        for denominator, text in REPETENDS.items():
            self.same(expansion(10, (1, denominator)), ((), row(text)))
            self.same(period(10, denominator), len(text))

    def test_pieces(self):
        for denominator, cut, told in (
            (7, 2, (142, 857)),
            (7, 3, (14, 28, 57)),
            (7, 6, (1, 4, 2, 8, 5, 7)),
            (13, 2, (76, 923)),
            (13, 3, (7, 69, 23)),
            (13, 6, (0, 7, 6, 9, 2, 3)),
            (17, 2, (5882352, 94117647)),
            (17, 4, (588, 2352, 9411, 7647)),
            (17, 8, (5, 88, 23, 52, 94, 11, 76, 47)),
            (21, 2, (47, 619)),
            (21, 3, (4, 76, 19)),
            (27, 3, (0, 3, 7)),
            (49, 7, (20408, 163265, 306122, 448979, 591836, 734693, 877551)),
            (49, 21, (2, 4, 8, 16, 32, 65, 30, 61, 22, 44, 89, 79, 59, 18, 36, 73, 46, 93, 87, 75, 51)),
            (81, 3, (12, 345, 679)),
            (81, 9, (0, 1, 2, 3, 4, 5, 6, 7, 9)),
            (97, 8, (10309278350, 515463917525, 773195876288, 659793814432, 989690721649, 484536082474,
                     226804123711, 340206185567)),
        ):
            self.same(pieces(10, (1, denominator), cut), told)

    def test_quotients(self):
        # 1 + 4 + 2 + 8 + 5 + 7 = 27 = 3 * 9; 588 + 2352 + 9411 + 7647 = 19998 = 2 * 9999; 4 + 76 + 19 = 99.
        for denominator, cut, told in (
            (7, 2, 1),
            (7, 3, 1),
            (7, 6, 3),
            (13, 2, 1),
            (13, 3, 1),
            (13, 6, 3),
            (17, 2, 1),
            (17, 4, 2),
            (17, 8, 4),
            (17, 16, 8),
            (21, 2, None),
            (21, 3, 1),
            (21, 6, 3),
            (27, 3, None),
            (49, 2, 1),
            (49, 3, 1),
            (49, 7, None),
            (49, 42, 21),
            (81, 3, None),
            (81, 9, None),
            (97, 2, 1),
            (97, 4, 2),
            (97, 8, 4),
            (97, 96, 48),
        ):
            self.same(quotient(10, (1, denominator), cut), told)
            self.same(is_balanced(10, denominator, cut), told is not None)

    def test_how_many_have_a_quotient(self):
        self.same(quotients(10, 7, 2), ((1, 6),))
        # Of 1/7, 2/7 and 4/7 the thirds sum to 99, of the others to 198.
        self.same(quotients(10, 7, 3), ((1, 3), (2, 3)))
        self.same(quotients(10, 7, 6), ((3, 6),))
        self.same(quotients(10, 13, 3), ((1, 6), (2, 6)))
        self.fails(Nothing, 2, quotients, 10, 21, 2)
        self.fails(Nothing, 3, quotients, 10, 27, 3)
        self.fails(Nothing, 7, quotients, 10, 49, 7)
        self.fails(Nothing, 9, quotients, 10, 81, 9)

    def test_cuts(self):
        for denominator, all_cuts, least in (
            (7, (2, 3, 6), (2, 3)),
            (13, (2, 3, 6), (2, 3)),
            (17, (2, 4, 8, 16), (2,)),
            (21, (3, 6), (3,)),
            (27, (), ()),
            # 7 divides 10 ** 6 - 1, and 49 does not divide 7.
            (49, (2, 3, 6, 14, 21, 42), (2, 3)),
            (81, (), ()),
            (97, (2, 3, 4, 6, 8, 12, 16, 24, 32, 48, 96), (2, 3)),
        ):
            self.same(cuts(10, denominator), all_cuts)
            self.same(least_cuts(10, denominator), least)

    def test_certificates(self):
        for denominator, cut, paper in (
            (7, 2, ("balanced", (1, 6))),
            (7, 3, ("balanced", (1, 2, 4))),
            (7, 6, ("balanced", (1, 3, 2, 6, 4, 5))),
            (13, 2, ("balanced", (1, 12))),
            (13, 3, ("balanced", (1, 9, 3))),
            (17, 4, ("balanced", (1, 4, 16, 13))),
            (21, 2, ("unbalanced", 3, 1)),
            (21, 3, ("balanced", (1, 16, 4))),
            (27, 3, ("unbalanced", 3, 3)),
            (49, 2, ("balanced", (1, 48))),
            (49, 3, ("balanced", (1, 30, 18))),
            (49, 7, ("unbalanced", 7, 2)),
            (81, 3, ("unbalanced", 3, 4)),
            (81, 9, ("unbalanced", 3, 4)),
            (97, 2, ("balanced", (1, 96))),
            # 10 ** 2 leaves 3 when divided by 97, so 10 ** 24 leaves what 3 ** 12 = 531441 leaves.
            (97, 4, ("balanced", (1, 75, 96, 22))),
        ):
            self.same(balance_paper(10, denominator, cut), paper)
            self.same(check_balance(10, denominator, cut, paper), paper[0])

    def test_wheels(self):
        self.same(wheel(10, (1, 7)), (1, 3, 2, 6, 4, 5))
        self.same(wheel(10, (1, 13)), (1, 10, 9, 12, 3, 4))
        self.same(wheel(10, (1, 17)), (1, 10, 15, 14, 4, 6, 9, 5, 16, 7, 2, 3, 13, 11, 8, 12))
        self.same(wheel(10, (1, 21)), (1, 10, 16, 13, 4, 19))
        self.same(wheel(10, (1, 27)), (1, 10, 19))
        self.same(wheel(10, (1, 81)), (1, 10, 19, 28, 37, 46, 55, 64, 73))
        for denominator, least in (
            (7, (1,)),
            (13, (1, 2)),
            (17, (1,)),
            (21, (1, 2)),
            (27, (1, 2, 4, 5, 7, 8)),
            (49, (1,)),
            (81, (1, 2, 4, 5, 7, 8)),
            (97, (1,)),
        ):
            self.same(wheels(10, denominator), least)

    def test_rotations(self):
        # 142857 times 3 is 428571, times 6 is 857142.
        self.same(rotation(10, (1, 7), (3, 7)), 1)
        self.same(rotation(10, (1, 7), (6, 7)), 3)
        self.same(rotated(10, row("142857"), 3), row("857142"))
        self.same(rotation(10, (1, 13), (3, 13)), 4)
        self.same(rotated(10, row("076923"), 4), row("230769"))
        self.same(rotation(10, (1, 13), (2, 13)), None)
        self.same(rotation(10, (1, 17), (16, 17)), 8)

    def test_multipliers(self):
        for denominator, told in (
            (7, (1, 2, 3, 4, 5, 6)),
            (13, (1, 3, 4, 9, 10, 12)),
            (17, tuple(range(1, 17))),
            (21, (1, 4, 10, 13, 16, 19)),
            (27, (1, 10, 19)),
            (49, tuple([number for number in range(1, 49) if number % 7 != 0])),
            (81, (1, 10, 19, 28, 37, 46, 55, 64, 73)),
            (97, tuple(range(1, 97))),
        ):
            self.same(multipliers(10, row(REPETENDS[denominator])), told)
            self.same(is_cyclic(10, row(REPETENDS[denominator])), denominator in (7, 17, 97))

    def test_multiples_of_a_cyclic_number(self):
        for many, text in ((2, "285714"), (3, "428571"), (4, "571428"), (5, "714285"), (6, "857142")):
            self.same(value_of(10, row(text)), many * 142857)
            self.same(rotated(10, row("142857"), rotation(10, (1, 7), (many, 7))), row(text))

    def test_cyclic_denominators(self):
        self.same(cyclic_denominators(10, 100), (7, 17, 19, 23, 29, 47, 59, 61, 97))


class InOtherBases(Case):
    def test_two(self):
        self.same(expansion(2, (1, 3)), ((), (0, 1)))
        self.same(expansion(2, (1, 5)), ((), (0, 0, 1, 1)))
        self.same(expansion(2, (1, 7)), ((), (0, 0, 1)))
        self.same(expansion(2, (1, 13)), ((), (0, 0, 0, 1, 0, 0, 1, 1, 1, 0, 1, 1)))
        self.same(pieces(2, (1, 5), 2), (0, 3))
        self.same(quotient(2, (1, 5), 2), 1)
        self.same(pieces(2, (1, 13), 3), (1, 3, 11))
        self.same(quotient(2, (1, 13), 3), 1)
        self.same(cuts(2, 7), (3,))
        self.same(cuts(2, 9), (2, 6))
        self.same(balance_paper(2, 9, 3), ("unbalanced", 3, 2))
        self.same(balance_paper(2, 9, 2), ("balanced", (1, 8)))
        self.same(wheel(2, (1, 7)), (1, 2, 4))
        self.same(wheels(2, 7), (1, 3))
        self.same(rotation(2, (1, 7), (4, 7)), 2)
        self.same(rotation(2, (1, 7), (3, 7)), None)
        self.same(multipliers(2, (0, 0, 1)), (1, 2, 4))
        self.same(multipliers(2, (0, 0, 1, 1)), (1, 2, 3, 4))
        self.same(is_cyclic(2, (0, 0, 1, 1)), True)
        self.same(cyclic_denominators(2, 70), (3, 5, 11, 13, 19, 29, 37, 53, 59, 61, 67))

    def test_twelve(self):
        self.same(expansion(12, (1, 5)), ((), (2, 4, 9, 7)))
        self.same(expansion(12, (1, 7)), ((), (1, 8, 6, 10, 3, 5)))
        self.same(expansion(12, (1, 11)), ((), (1,)))
        self.same(expansion(12, (1, 13)), ((), (0, 11)))
        # In base twelve 24 and 97 are 28 and 115, and their sum is 143 = 12 ** 2 - 1.
        self.same(pieces(12, (1, 5), 2), (28, 115))
        self.same(quotient(12, (1, 5), 2), 1)
        self.same(quotient(12, (1, 5), 4), 2)
        self.same(cuts(12, 5), (2, 4))
        self.same(least_cuts(12, 5), (2,))
        # 12 ** 6 - 1 is a multiple of 7, and 12 ** 4 - 1 one of 5: neither halves nor thirds of one over 35 balance.
        self.same(cuts(12, 35), (4, 6, 12))
        self.same(least_cuts(12, 35), (4, 6))
        self.same(balance_paper(12, 35, 2), ("unbalanced", 7, 1))
        self.same(balance_paper(12, 35, 3), ("unbalanced", 5, 1))
        self.same(balance_paper(12, 77, 2), ("unbalanced", 11, 1))
        self.same(balance_paper(12, 121, 11), ("unbalanced", 11, 2))
        self.same(wheel(12, (1, 5)), (1, 2, 4, 3))
        self.same(wheels(12, 13), (1, 2, 3, 4, 5, 6))
        self.same(multipliers(12, (2, 4, 9, 7)), (1, 2, 3, 4))
        self.same(multipliers(12, (0, 11)), (1, 12))
        self.same(is_cyclic(12, (2, 4, 9, 7)), True)
        self.same(cyclic_denominators(12, 70), (5, 7, 17, 31, 41, 43, 53, 67))

    def test_sixteen(self):
        self.same(expansion(16, (1, 3)), ((), (5,)))
        self.same(expansion(16, (1, 7)), ((), (2, 4, 9)))
        self.same(expansion(16, (1, 17)), ((), (0, 15)))
        self.same(expansion(16, (1, 13)), ((), (1, 3, 11)))
        self.same(pieces(16, (1, 7), 3), (2, 4, 9))
        self.same(quotient(16, (1, 7), 3), 1)
        self.same(quotients(16, 7, 3), ((1, 3), (2, 3)))
        self.same(quotients(16, 17, 2), ((1, 16),))
        self.same(cuts(16, 7), (3,))
        self.same(cuts(16, 9), ())
        self.same(balance_paper(16, 9, 3), ("unbalanced", 3, 2))
        self.same(balance_paper(16, 21, 3), ("balanced", (1, 16, 4)))
        self.same(wheels(16, 7), (1, 3))
        self.same(multipliers(16, (2, 4, 9)), (1, 2, 4))
        self.same(is_cyclic(16, (2, 4, 9)), False)
        # 16 is a square: of no prime P is its period P - 1.
        self.same(cyclic_denominators(16, 400), ())


if __name__ == "__main__":
    unittest.main()
