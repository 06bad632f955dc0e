"""Points [2], [7], [8], [12], [13] and [14]: ratios and their texts."""

import unittest
from fractions import Fraction
from itertools import product
from math import gcd

from everydecider import ratios
from everydecider.errors import BadRatio, BadText
from everydecider.ratios import (common, compare, lowest, minus, over, plus, ratio, ratio_text,
                                 read_ratio, times, total)
from tests.examples import expect_error, run_examples

EXAMPLES = """
    >>> [ratio(6, -4), plus((1, 2), (1, 3)), over((1, 2), (-3, 4)), compare((1, 3), (2, 6 - 1))]
    [(-3, 2), (5, 6), (-2, 3), -1]
    >>> [common([(1, 2), (-2, 3), (5, 1)]), lowest([4, -6, 0]), ratio_text((-3, 2)), read_ratio("7"), total([(1, 2)] * 3)]
    [(6, [3, -4, 30]), [2, -3, 0], '-3/2', (7, 1), (3, 2)]
    >>> read_ratio("2/4")
    raises BadText()
"""
BIG = 123456789012345678901234567890
BIGGER = 999999999999999999999999999999


def as_ratio(fraction):
    return (fraction.numerator, fraction.denominator)


def fraction_of(one):
    return Fraction(one[0], one[1])


SMALL = [as_ratio(Fraction(top, bottom)) for top in range(-6, 7) for bottom in (1, 2, 3, 4, 6, 9)]
LARGE = [as_ratio(Fraction(top, bottom)) for top in (BIG, -BIG, BIGGER, 1, 0) for bottom in (BIG, BIGGER, 7)]


class Ratios(unittest.TestCase):

    def check(self, one, expected):
        """A ratio is a tuple of two plain integers in lowest terms, its bottom at least 1."""
        self.assertIs(type(one), tuple)
        self.assertEqual([type(number) for number in one], [int, int])
        self.assertEqual(gcd(one[0], one[1]), 1)
        self.assertGreaterEqual(one[1], 1)
        self.assertEqual(one, as_ratio(expected))

    def test_examples(self):
        run_examples(self, EXAMPLES, vars(ratios))

    def test_ratio(self):
        tops = [*range(-12, 13), BIG, -BIG, BIGGER]
        bottoms = [*range(-12, 0), *range(1, 13), BIG, -BIG, BIGGER, -BIGGER]
        for top, bottom in product(tops, bottoms):
            self.check(ratio(top, bottom), Fraction(top, bottom))

    def test_ratio_with_one_argument(self):
        for top in (0, 5, -5, BIG, -BIGGER):
            self.assertEqual(ratio(top), (top, 1))

    def test_zero_is_zero_over_one(self):
        for bottom in (1, -1, 6, -6, BIG, -BIG):
            self.assertEqual(ratio(0, bottom), (0, 1))
        self.assertEqual(minus((1, 3), (1, 3)), (0, 1))
        self.assertEqual(times((0, 1), (-5, 3)), (0, 1))
        self.assertEqual(over((0, 1), (-5, 3)), (0, 1))

    def test_signs(self):
        self.assertEqual([ratio(6, 4), ratio(-6, 4), ratio(6, -4), ratio(-6, -4)],
                         [(3, 2), (-3, 2), (-3, 2), (3, 2)])

    def test_bottom_zero(self):
        for top in (0, 1, -1, BIG):
            expect_error(self, BadRatio(0), lambda: ratio(top, 0))

    def test_division_by_zero(self):
        for one in ((0, 1), (1, 2), (-BIG, 7)):
            expect_error(self, BadRatio(0), lambda: over(one, (0, 1)))

    def test_reckoning(self):
        for one, other in [*product(SMALL, SMALL), *product(LARGE, LARGE), *product(LARGE, SMALL)]:
            x, y = fraction_of(one), fraction_of(other)
            self.check(plus(one, other), x + y)
            self.check(minus(one, other), x - y)
            self.check(times(one, other), x * y)
            if y != 0:
                self.check(over(one, other), x / y)
            self.assertIs(type(compare(one, other)), int)
            self.assertEqual(compare(one, other), (x > y) - (x < y))

    def test_total(self):
        self.assertEqual([total([]), total(()), total([(-7, 3)])], [(0, 1), (0, 1), (-7, 3)])
        self.check(total(SMALL), sum([fraction_of(one) for one in SMALL]))
        self.check(total(LARGE[1:]), sum([fraction_of(one) for one in LARGE[1:]]))
        self.check(total([(1, 2), (1, 3), (1, 6)]), Fraction(1))
        self.check(total([(1, 2), (-1, 2)]), Fraction(0))

    def test_arguments_by_name(self):
        self.assertEqual(ratio(top=4, bottom=6), (2, 3))
        self.assertEqual(ratio(bottom=6, top=4), (2, 3))
        self.assertEqual(ratio(top=4), (4, 1))
        one, other = (1, 2), (1, 3)
        self.assertEqual([plus(one=one, other=other), minus(other=other, one=one), times(one=one, other=other),
                          over(one=one, other=other), compare(one=one, other=other)],
                         [(5, 6), (1, 6), (1, 6), (3, 2), 1])
        self.assertEqual([total(ratios=[one]), common(ratios=[one]), lowest(numbers=[2])], [(1, 2), (2, [1]), [1]])
        self.assertEqual([ratio_text(one=one), read_ratio(text="1/2")], ["1/2", (1, 2)])


class CommonUnits(unittest.TestCase):

    def test_common(self):
        cases = [
            ([], (1, [])),
            ([(0, 1)], (1, [0])),
            ([(0, 1), (0, 1)], (1, [0, 0])),
            ([(3, 1), (-4, 1)], (1, [3, -4])),
            ([(1, 2), (1, 3)], (6, [3, 2])),
            ([(1, 4), (1, 6)], (12, [3, 2])),
            ([(-5, 6), (1, 3), (7, 2)], (6, [-5, 2, 21])),
            ([(1, 2), (1, 2)], (2, [1, 1])),
            ([(0, 1), (1, 7)], (7, [0, 1])),
            ([(1, BIG), (1, 2 * BIG)], (2 * BIG, [2, 1])),
        ]
        for given, expected in cases:
            self.assertEqual(common(given), expected)
            self.assertEqual(common(tuple(given)), expected)
            self.assertIs(type(common(given)), tuple)
            self.assertIs(type(common(tuple(given))[1]), list)

    def test_common_is_least(self):
        for given in product([(1, 4), (-3, 10), (2, 1), (5, 6), (0, 1)], repeat=3):
            unit, tops = common(given)
            self.assertEqual([Fraction(top, unit) for top in tops], [fraction_of(one) for one in given])
            self.assertFalse([less for less in range(1, unit) if all(less % one[1] == 0 for one in given)])

    def test_lowest(self):
        cases = [
            ([], []),
            ([0], [0]),
            ([0, 0, 0], [0, 0, 0]),
            ([4, -6, 0], [2, -3, 0]),
            ([0, 5], [0, 1]),
            ([-5], [-1]),
            ([-4, -8], [-1, -2]),
            ([3, 5], [3, 5]),
            ([6, 10, 15], [6, 10, 15]),
            ([BIG * 2, BIG * 3], [2, 3]),
        ]
        for given, expected in cases:
            self.assertEqual(lowest(given), expected)
            self.assertEqual(lowest(tuple(given)), expected)
            self.assertIs(type(lowest(tuple(given))), list)

    def test_lists_are_new_and_arguments_stay(self):
        for given in ([], [0, 0], [2, 4], [3, 5]):
            kept = list(given)
            told = lowest(given)
            self.assertIsNot(told, given)
            self.assertIsNot(lowest(given), told)
            told.append(9)
            self.assertEqual([given, lowest(given) == told], [kept, False])
        for given in ([], [(1, 2), (1, 3)]):
            kept = list(given)
            told = common(given)
            told[1].append(9)
            total(given)
            self.assertEqual(given, kept)
            self.assertNotEqual(common(given), told)


class Texts(unittest.TestCase):

    def test_ratio_text(self):
        cases = [((0, 1), "0"), ((7, 1), "7"), ((-7, 1), "-7"), ((3, 2), "3/2"), ((-3, 2), "-3/2"),
                 ((1, 10), "1/10"), ((100, 1), "100"), ((10 ** 60, 1), "1" + "0" * 60),
                 ((-BIG, 7 * 10 ** 29 + 1), "-123456789012345678901234567890/700000000000000000000000000001")]
        for one, text in cases:
            self.assertEqual(ratio_text(one), text)

    def test_texts_of_any_length(self):
        digits = "1" + "0" * 2500 + "7" * 2500
        number = 0
        for digit in digits:
            number = number * 10 + int(digit)
        self.assertEqual(ratio_text((number, 1)), digits)
        self.assertEqual(ratio_text((-number, 2 * number + 1)).partition("/")[0], "-" + digits)

    def test_there_and_back(self):
        for one in SMALL:
            self.assertEqual(read_ratio(ratio_text(one)), one)
        for one in LARGE:
            if len(ratio_text(one)) <= 60:
                self.assertEqual(read_ratio(ratio_text(one)), one)
            else:
                expect_error(self, BadText(), lambda: read_ratio(ratio_text(one)))

    def test_no_text(self):
        wrong = ["", "-", "/", "+7", "07", "00", "-0", "-07", "1/02", "01/2", "1/-2", "-1/-2", "1/+2", "--1",
                 "7/1", "0/1", "-7/1", "7/0", "0/0", "0/5", "2/4", "-2/4", "6/3", "1/", "/2", "1//2", "1/2/3",
                 " 7", "7 ", "1 /2", "1/ 2", " ", "1 2", "\n7", "7\n", "1\n/2", "1/\n2", "1/2\n", "\n",
                 "1_0", "1.0", "1e3", "0x1", "one", "1-2", "3-", "1/2-", "(1, 2)", "~"]
        for text in wrong:
            with self.subTest(text=text):
                expect_error(self, BadText(), lambda: read_ratio(text))

    def test_all_short_strings(self):
        texts = {str(top) for top in range(-999, 10000)}
        texts |= {f"{top}/{bottom}" for top in range(-9, 100) for bottom in range(2, 100) if gcd(top, bottom) == 1}
        for length in range(5):
            for letters in product("0124-+/ \n", repeat=length):
                text = "".join(letters)
                if text in texts:
                    self.assertEqual(ratio_text(read_ratio(text)), text)
                else:
                    with self.assertRaises(BadText):
                        read_ratio(text)

    def test_sixty_characters(self):
        self.assertEqual(read_ratio("1" * 60), (int("1" * 60), 1))
        self.assertEqual(read_ratio("-" + "1" * 59), (-int("1" * 59), 1))
        self.assertEqual(read_ratio("1/" + "3" * 58), (1, int("3" * 58)))
        for text in ("1" * 61, "-" + "1" * 60, "1/" + "3" * 59, "1" * 5000, " " * 61):
            expect_error(self, BadText(), lambda: read_ratio(text))


if __name__ == "__main__":
    unittest.main()
