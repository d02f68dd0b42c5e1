"""Ratios: [1], [2], [16] and the interface of wheeltrain/ratios.py."""

import unittest
from fractions import Fraction
from math import gcd

from wheeltrain.errors import BadRatio
from wheeltrain.ratios import less, lowest, need_ratio, times

BIG = 10 ** 30

NUMBERS = [1, 2, 3, 4, 6, 9, 10, 35, 1000000, 1000001, BIG, BIG + 1, 6 * BIG]
RATIOS = [(sign * top, bottom) for top in NUMBERS for bottom in NUMBERS for sign in (1, -1)]


def low_by_fraction(fraction):
    return (fraction.numerator, fraction.denominator)


class TestLowest(unittest.TestCase):
    def test_without_a_common_divisor(self):
        self.assertEqual(lowest(3, 4), (3, 4))
        self.assertEqual(lowest(1, 1), (1, 1))
        self.assertEqual(lowest(7, 1), (7, 1))
        self.assertEqual(lowest(1, 7), (1, 7))

    def test_with_a_common_divisor(self):
        self.assertEqual(lowest(6, 4), (3, 2))
        self.assertEqual(lowest(12, 18), (2, 3))
        self.assertEqual(lowest(60, 60), (1, 1))
        self.assertEqual(lowest(60, 2), (30, 1))

    def test_the_way_round_is_kept(self):
        self.assertEqual(lowest(-6, 4), (-3, 2))
        self.assertEqual(lowest(-3, 4), (-3, 4))
        self.assertEqual(lowest(-5, 5), (-1, 1))
        self.assertEqual(lowest(-1, 7), (-1, 7))

    def test_great_numbers(self):
        self.assertEqual(lowest(BIG, 10 ** 29), (10, 1))
        self.assertEqual(lowest(-10 ** 29, BIG), (-1, 10))
        self.assertEqual(lowest(BIG + 1, BIG), (BIG + 1, BIG))
        self.assertEqual(lowest(3 * BIG + 3, 2 * BIG + 2), (3, 2))

    def test_what_is_told_is_alike_and_low(self):
        for top, bottom in RATIOS:
            told = lowest(top, bottom)
            self.assertIs(type(told), tuple)
            self.assertEqual([type(number) for number in told], [int, int])
            self.assertEqual(Fraction(*told), Fraction(top, bottom))
            self.assertGreater(told[1], 0)
            self.assertEqual(gcd(told[0], told[1]), 1)


class TestTimes(unittest.TestCase):
    def test_ordinary_ratios(self):
        self.assertEqual(times((2, 3), (5, 7)), (10, 21))
        self.assertEqual(times((2, 3), (3, 2)), (1, 1))
        self.assertEqual(times((2, 3), (3, 4)), (1, 2))
        self.assertEqual(times((1, 1), (4, 9)), (4, 9))

    def test_what_is_handed_in_need_not_be_low(self):
        self.assertEqual(times((4, 2), (1, 1)), (2, 1))
        self.assertEqual(times((4, 6), (9, 3)), (2, 1))

    def test_ways_round(self):
        self.assertEqual(times((-2, 3), (1, 2)), (-1, 3))
        self.assertEqual(times((2, 3), (-1, 2)), (-1, 3))
        self.assertEqual(times((-2, 3), (-1, 2)), (1, 3))

    def test_the_product_may_have_numbers_above_1000000(self):
        self.assertEqual(times((999999, 1), (1000000, 1)), (999999000000, 1))
        self.assertEqual(times((1, 999999), (1, 1000000)), (1, 999999000000))
        self.assertEqual(times((BIG, 3), (BIG, 7)), (BIG * BIG, 21))
        self.assertEqual(times((-BIG, 1), (1, BIG)), (-1, 1))

    def test_every_product(self):
        for one in RATIOS[::7]:
            for other in RATIOS[::5]:
                wanted = low_by_fraction(Fraction(*one) * Fraction(*other))
                self.assertEqual(times(one, other), wanted)


class TestLess(unittest.TestCase):
    def test_ordinary_ratios(self):
        self.assertIs(less((1, 2), (2, 3)), True)
        self.assertIs(less((2, 3), (1, 2)), False)
        self.assertIs(less((3, 1), (10, 3)), True)
        self.assertIs(less((10, 3), (3, 1)), False)

    def test_ratios_that_are_alike(self):
        self.assertIs(less((1, 2), (1, 2)), False)
        self.assertIs(less((1, 2), (2, 4)), False)
        self.assertIs(less((2, 4), (1, 2)), False)
        self.assertIs(less((-3, 6), (-1, 2)), False)
        self.assertIs(less((BIG, 2 * BIG), (1, 2)), False)

    def test_tops_below_nought(self):
        self.assertIs(less((-1, 2), (1, 2)), True)
        self.assertIs(less((1, 2), (-1, 2)), False)
        self.assertIs(less((-2, 3), (-1, 2)), True)
        self.assertIs(less((-1, 2), (-2, 3)), False)

    def test_ratios_that_are_close_to_one_another(self):
        self.assertIs(less((BIG, BIG + 1), (BIG + 1, BIG + 2)), True)
        self.assertIs(less((BIG + 1, BIG + 2), (BIG, BIG + 1)), False)

    def test_every_pair(self):
        for one in RATIOS[::7]:
            for other in RATIOS[::5]:
                self.assertIs(less(one, other), Fraction(*one) < Fraction(*other))


class TestNeedRatio(unittest.TestCase):
    def test_a_low_ratio(self):
        self.assertEqual(need_ratio((3, 4)), (3, 4))
        self.assertEqual(need_ratio((4, 3)), (4, 3))

    def test_a_ratio_that_is_not_low_is_told_low(self):
        self.assertEqual(need_ratio((6, 4)), (3, 2))
        self.assertEqual(need_ratio((1000000, 500000)), (2, 1))

    def test_the_least_and_the_greatest_numbers(self):
        self.assertEqual(need_ratio((1, 1)), (1, 1))
        self.assertEqual(need_ratio((1, 1000000)), (1, 1000000))
        self.assertEqual(need_ratio((1000000, 1)), (1000000, 1))
        self.assertEqual(need_ratio((1000000, 1000000)), (1, 1))
        self.assertEqual(need_ratio((999999, 1000000)), (999999, 1000000))

    def test_numbers_that_are_refused_in_either_place(self):
        wrong = [0, 1000001, 2000000, BIG, -1, -3, -1000000, True, False, None, "1", "", [1], (1,), {}]
        for number in wrong:
            with self.subTest(number=number):
                self.assertRaises(BadRatio, need_ratio, (number, 1))
                self.assertRaises(BadRatio, need_ratio, (1, number))
                self.assertRaises(BadRatio, need_ratio, (number, number))

    def test_a_number_too_great_is_refused_though_its_low_ratio_is_not(self):
        self.assertRaises(BadRatio, need_ratio, (1000002, 2))
        self.assertRaises(BadRatio, need_ratio, (2, 2000000))

    def test_two_numbers_below_nought_are_refused(self):
        self.assertRaises(BadRatio, need_ratio, (-1, -2))

    def test_things_that_are_refused(self):
        wrong = [[1, 2], [], (), (1,), (1, 2, 3), None, "1:2", "12", "", b"12", 5, 0, True, False,
                 {}, {1: 2, 2: 1}, {1, 2}]
        for thing in wrong:
            with self.subTest(thing=thing):
                self.assertRaises(BadRatio, need_ratio, thing)

    def test_what_is_refused_stays_as_it_was(self):
        rows = [6, 4]
        self.assertRaises(BadRatio, need_ratio, rows)
        self.assertEqual(rows, [6, 4])
        table = {6: 4, 4: 6}
        self.assertRaises(BadRatio, need_ratio, table)
        self.assertEqual(table, {6: 4, 4: 6})
        inner = [1]
        self.assertRaises(BadRatio, need_ratio, (1, inner))
        self.assertEqual(inner, [1])

    def test_what_is_good_stays_as_it_was(self):
        one, other = (6, 4), (-4, 6)
        need_ratio(one)
        lowest(one[0], one[1])
        times(one, other)
        less(one, other)
        self.assertEqual((one, other), ((6, 4), (-4, 6)))


if __name__ == "__main__":
    unittest.main()
