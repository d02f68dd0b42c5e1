"""Shops: [1], [10], [11], [16] and the interface of wheeltrain/shops.py."""

import copy
import unittest
from fractions import Fraction

from samples import GOOD_SHOPS, WRONG_PAIRS, WRONG_SHOPS, as_ratio, train_fractions
from wheeltrain.errors import BadPairs, BadShop
from wheeltrain.shops import all_ratios


class TestAllRatios(unittest.TestCase):
    def test_no_pairs(self):
        for shop in GOOD_SHOPS:
            self.assertEqual(all_ratios(shop, 0), [(1, 1)])

    def test_one_number_of_teeth_only(self):
        for teeth in (2, 13, 60):
            for pairs in range(3):
                self.assertEqual(all_ratios((teeth, teeth), pairs), [(1, 1)])

    def test_ordinary_rows(self):
        self.assertEqual(all_ratios((9, 10), 1), [(9, 10), (1, 1), (10, 9)])
        self.assertEqual(all_ratios((9, 10), 2), [(81, 100), (9, 10), (1, 1), (10, 9), (100, 81)])
        self.assertEqual(
            all_ratios((2, 4), 1),
            [(1, 2), (2, 3), (3, 4), (1, 1), (4, 3), (3, 2), (2, 1)],
        )
        self.assertEqual(all_ratios((2, 5), 1)[0], (2, 5))
        self.assertEqual(all_ratios((57, 60), 1)[-1], (20, 19))

    def test_the_row_is_that_of_all_trains_tried_one_by_one(self):
        for shop in GOOD_SHOPS:
            for pairs in range(3):
                wanted = [as_ratio(told) for told in sorted(set(train_fractions(shop, pairs)))]
                with self.subTest(shop=shop, pairs=pairs):
                    self.assertEqual(all_ratios(shop, pairs), wanted)

    def test_every_shop(self):
        for least in range(2, 61):
            for greatest in range(least, min(least + 3, 60) + 1):
                wanted = [as_ratio(told) for told in sorted(set(train_fractions((least, greatest), 1)))]
                self.assertEqual(all_ratios((least, greatest), 1), wanted)

    def test_the_row_is_rising_and_has_each_ratio_once(self):
        for shop in GOOD_SHOPS:
            row = [Fraction(*told) for told in all_ratios(shop, 2)]
            for one, other in zip(row, row[1:]):
                self.assertLess(one, other)

    def test_what_fewer_pairs_reach_more_pairs_reach(self):
        for shop in GOOD_SHOPS:
            rows = [all_ratios(shop, pairs) for pairs in range(3)]
            for fewer, more in zip(rows, rows[1:]):
                self.assertEqual([told for told in fewer if told not in more], [])

    def test_with_each_ratio_the_exchanged_one(self):
        for shop in GOOD_SHOPS:
            for pairs in range(3):
                row = all_ratios(shop, pairs)
                self.assertEqual([(bottom, top) for top, bottom in row[::-1]], row)

    def test_kinds(self):
        for pairs in range(3):
            row = all_ratios((9, 12), pairs)
            self.assertIs(type(row), list)
            for told in row:
                self.assertIs(type(told), tuple)
                self.assertEqual([type(number) for number in told], [int, int])

    def test_what_is_told_may_be_changed(self):
        for shop in GOOD_SHOPS:
            for pairs in range(3):
                wanted = list(all_ratios(shop, pairs))
                told = all_ratios(shop, pairs)
                told.append((99, 1))
                told[0] = (5, 5)
                told.reverse()
                self.assertEqual(all_ratios(shop, pairs), wanted)


class TestRefusals(unittest.TestCase):
    def test_what_is_no_shop(self):
        for thing in copy.deepcopy(WRONG_SHOPS):
            before = copy.deepcopy(thing)
            for pairs in range(3):
                with self.subTest(thing=thing, pairs=pairs):
                    self.assertRaises(BadShop, all_ratios, thing, pairs)
                    self.assertEqual(thing, before)

    def test_the_greatest_is_at_most_the_least_and_three(self):
        for least in range(2, 57):
            self.assertEqual(all_ratios((least, least + 3), 0), [(1, 1)])
            self.assertRaises(BadShop, all_ratios, (least, least + 4), 0)

    def test_what_is_no_number_of_pairs(self):
        for pairs in WRONG_PAIRS + [3]:
            before = copy.deepcopy(pairs)
            with self.subTest(pairs=pairs):
                self.assertRaises(BadPairs, all_ratios, (9, 12), pairs)
                self.assertEqual(pairs, before)

    def test_a_bad_shop_ahead_of_bad_pairs(self):
        for shop in WRONG_SHOPS:
            for pairs in WRONG_PAIRS + [3]:
                self.assertRaises(BadShop, all_ratios, shop, pairs)


if __name__ == "__main__":
    unittest.main()
