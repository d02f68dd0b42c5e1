"""Searching: [1], [12] to [14], [16] and the interface of wheeltrain/searching.py."""

import copy
import unittest
from fractions import Fraction
from functools import lru_cache

from samples import GOOD_SHOPS, WRONG_PAIRS, WRONG_RATIOS, WRONG_SHOPS, as_ratio, train_fractions
from wheeltrain.errors import BadPairs, BadRatio, BadShop
from wheeltrain.searching import nearest, reached, shown
from wheeltrain.shops import all_ratios

SHOPS = [(2, 2), (2, 3), (2, 5), (9, 12), (13, 13), (30, 32), (57, 60), (59, 60), (60, 60)]

WISHED = [
    (1, 1), (1, 2), (2, 1), (2, 3), (9, 10), (10, 9), (81, 100), (1000, 729), (7, 9), (19, 20), (8, 125), (125, 8),
    (99, 100), (100, 99), (355, 113), (113, 355), (31, 30), (216000, 205379), (205379, 216000), (1, 1000000),
    (1000000, 1), (999999, 1000000), (1000000, 999999),
    (50, 50), (6, 4), (162, 200), (500000, 1000000), (1000000, 1000000),
]

SEARCHES = {"reached": reached, "nearest": nearest, "shown": shown}


@lru_cache(maxsize=None)
def fractions_up_to(shop, pairs):
    """All ratios of trains of at most so many stages, each train tried one by one."""
    return {told for stages in range(1, pairs + 1) for told in train_fractions(shop, stages)}


def size(train):
    """The ratio of a plain train, whichever way round."""
    told = Fraction(1)
    for driver, driven in train:
        told *= Fraction(driver, driven)
    return told


def sizes(trains):
    return tuple(None if train is None else size(train) for train in trains)


def nearest_by_trying(shop, wished, pairs):
    found = fractions_up_to(shop, pairs)
    below = [told for told in found if told <= Fraction(*wished)]
    above = [told for told in found if told >= Fraction(*wished)]
    return (max(below, default=None), min(above, default=None))


class Searching(unittest.TestCase):
    def check_train(self, train, shop, pairs):
        """The train is a plain one of the shop, with at most so many stages."""
        self.assertIs(type(train), list)
        self.assertIn(len(train), range(1, pairs + 1))
        for stage in train:
            self.assertIs(type(stage), tuple)
            self.assertEqual(len(stage), 2)
            for teeth in stage:
                self.assertIs(type(teeth), int)
                self.assertIn(teeth, range(shop[0], shop[1] + 1))


class TestReached(Searching):
    def test_by_one_pair(self):
        for pairs in (1, 2, 3):
            self.assertEqual(reached((9, 12), (10, 11), pairs), [(10, 11)])
            self.assertEqual(reached((9, 12), (11, 10), pairs), [(11, 10)])

    def test_by_two_pairs_and_no_fewer(self):
        self.assertIsNone(reached((9, 10), (81, 100), 1))
        self.assertEqual(reached((9, 10), (81, 100), 2), [(9, 10), (9, 10)])
        self.assertEqual(reached((9, 10), (81, 100), 3), [(9, 10), (9, 10)])

    def test_by_three_pairs_and_no_fewer(self):
        self.assertIsNone(reached((9, 10), (729, 1000), 1))
        self.assertIsNone(reached((9, 10), (729, 1000), 2))
        self.assertEqual(reached((9, 10), (729, 1000), 3), [(9, 10)] * 3)
        self.assertEqual(reached((9, 10), (1000, 729), 3), [(10, 9)] * 3)

    def test_by_no_train(self):
        self.assertIsNone(reached((9, 10), (7, 1), 3))
        self.assertIsNone(reached((9, 10), (19, 20), 3))
        self.assertIsNone(reached((9, 10), (6561, 10000), 3))
        self.assertIsNone(reached((13, 13), (13, 14), 3))
        self.assertIsNone(reached((59, 60), (1000000, 1), 3))
        self.assertIsNone(reached((2, 5), (1, 1000000), 3))

    def test_one_to_one(self):
        for shop in GOOD_SHOPS:
            for pairs in (1, 2, 3):
                told = reached(shop, (1, 1), pairs)
                self.check_train(told, shop, pairs)
                self.assertEqual(len(told), 1)
                self.assertEqual(size(told), 1)

    def test_wished_ratios_that_are_not_low(self):
        self.assertEqual(reached((9, 10), (162, 200), 3), [(9, 10), (9, 10)])
        self.assertEqual(reached((9, 12), (40, 44), 3), [(10, 11)])
        self.assertEqual(len(reached((9, 10), (7, 7), 3)), 1)
        self.assertEqual(len(reached((9, 10), (1000000, 1000000), 3)), 1)

    def test_great_numbers(self):
        self.assertEqual(reached((59, 60), (216000, 205379), 3), [(60, 59)] * 3)
        self.assertEqual(reached((59, 60), (864000, 821516), 3), [(60, 59)] * 3)
        self.assertEqual(reached((9, 10), (729000, 1000000), 3), [(9, 10)] * 3)
        self.assertEqual(reached((9, 10), (1000000, 729000), 3), [(10, 9)] * 3)

    def test_every_ratio_that_a_shop_reaches(self):
        for shop in SHOPS:
            for told in fractions_up_to(shop, 3):
                fewest = min(many for many in (1, 2, 3) if told in fractions_up_to(shop, many))
                for pairs in (1, 2, 3):
                    train = reached(shop, as_ratio(told), pairs)
                    if pairs < fewest:
                        self.assertIsNone(train)
                    else:
                        self.check_train(train, shop, pairs)
                        self.assertEqual(size(train), told)
                        self.assertEqual(len(train), fewest)

    def test_wished_ratios_against_all_trains(self):
        for shop in SHOPS:
            for wished in WISHED:
                for pairs in (1, 2, 3):
                    there = Fraction(*wished) in fractions_up_to(shop, pairs)
                    self.assertEqual(reached(shop, wished, pairs) is not None, there)


class TestNearest(Searching):
    def test_a_wished_ratio_that_is_reached(self):
        self.assertEqual(nearest((9, 10), (9, 10), 1), ([(9, 10)], [(9, 10)]))
        self.assertEqual(sizes(nearest((9, 10), (162, 200), 2)), (Fraction(81, 100), Fraction(81, 100)))
        for shop in SHOPS:
            for told in fractions_up_to(shop, 2):
                self.assertEqual(sizes(nearest(shop, as_ratio(told), 2)), (told, told))

    def test_a_wished_ratio_above_all_of_them(self):
        self.assertEqual(nearest((9, 10), (7, 1), 2), ([(10, 9), (10, 9)], None))
        self.assertEqual(nearest((59, 60), (1000000, 1), 3), ([(60, 59)] * 3, None))

    def test_a_wished_ratio_below_all_of_them(self):
        self.assertEqual(nearest((9, 10), (1, 7), 2), (None, [(9, 10), (9, 10)]))
        self.assertEqual(nearest((59, 60), (1, 1000000), 3), (None, [(59, 60)] * 3))

    def test_a_wished_ratio_that_lies_between(self):
        self.assertEqual(sizes(nearest((9, 10), (19, 20), 1)), (Fraction(9, 10), Fraction(1)))
        self.assertEqual(nearest((9, 10), (17, 20), 2)[0], [(9, 10), (9, 10)])
        self.assertEqual(sizes(nearest((9, 10), (17, 20), 2)), (Fraction(81, 100), Fraction(9, 10)))

    def test_a_shop_with_one_number_of_teeth(self):
        for pairs in (1, 2, 3):
            self.assertEqual(sizes(nearest((13, 13), (1, 1), pairs)), (1, 1))
            self.assertEqual(sizes(nearest((13, 13), (14, 13), pairs)), (1, None))
            self.assertEqual(sizes(nearest((13, 13), (13, 14), pairs)), (None, 1))

    def test_both_sides_against_all_trains(self):
        for shop in SHOPS:
            for wished in WISHED:
                for pairs in (1, 2, 3):
                    told = nearest(shop, wished, pairs)
                    with self.subTest(shop=shop, wished=wished, pairs=pairs):
                        self.assertIs(type(told), tuple)
                        self.assertEqual(len(told), 2)
                        for train in told:
                            if train is not None:
                                self.check_train(train, shop, pairs)
                        self.assertEqual(sizes(told), nearest_by_trying(shop, wished, pairs))

    def test_between_all_neighbours(self):
        for shop in SHOPS:
            row = sorted(fractions_up_to(shop, 2))
            for one, other in zip(row, row[1:]):
                # Their middle one: tops and bottoms added.
                middle = (one.numerator + other.numerator, one.denominator + other.denominator)
                self.assertEqual(sizes(nearest(shop, middle, 2)), (one, other))

    def check_no_farther(self, narrow, wide, wished):
        """What the wide search tells is on both sides no farther off than what the narrow one tells."""
        self.assertEqual(len(narrow), len(wide))
        if narrow[0] is not None:
            self.assertGreaterEqual(size(wide[0]), size(narrow[0]))
            self.assertLessEqual(size(wide[0]), Fraction(*wished))
        if narrow[1] is not None:
            self.assertLessEqual(size(wide[1]), size(narrow[1]))
            self.assertGreaterEqual(size(wide[1]), Fraction(*wished))

    def test_one_number_of_teeth_more_tells_nothing_farther_off(self):
        for least, greatest in ((2, 2), (3, 5), (9, 11), (13, 13), (30, 32), (57, 59), (58, 59)):
            for wished in WISHED:
                for pairs in (1, 2, 3):
                    narrow = nearest((least, greatest), wished, pairs)
                    self.check_no_farther(narrow, nearest((least, greatest + 1), wished, pairs), wished)
                    if least > 2:
                        self.check_no_farther(narrow, nearest((least - 1, greatest), wished, pairs), wished)

    def test_one_pair_more_tells_nothing_farther_off(self):
        for shop in SHOPS:
            for wished in WISHED:
                told = [nearest(shop, wished, pairs) for pairs in (1, 2, 3)]
                self.check_no_farther(told[0], told[1], wished)
                self.check_no_farther(told[1], told[2], wished)

    def test_of_the_exchanged_ratio_the_sides_are_exchanged(self):
        for shop in SHOPS:
            for top, bottom in WISHED:
                for pairs in (1, 2, 3):
                    below, above = sizes(nearest(shop, (top, bottom), pairs))
                    wanted = (above and 1 / above, below and 1 / below)
                    self.assertEqual(sizes(nearest(shop, (bottom, top), pairs)), wanted)

    def test_each_of_the_two_trains_is_changed_alone(self):
        told = nearest((9, 10), (81, 100), 2)
        told[0].append((5, 5))
        self.assertEqual(told[1], [(9, 10), (9, 10)])


class TestShown(unittest.TestCase):
    def test_for_one_pair(self):
        self.assertEqual(shown((9, 10), (19, 20), 1), [((1, 1), (9, 10), (1, 1))])
        self.assertEqual(shown((9, 10), (18, 20), 1), [((1, 1), (9, 10), (9, 10))])
        self.assertEqual(shown((9, 10), (7, 1), 1), [((1, 1), (10, 9), None)])
        self.assertEqual(shown((9, 10), (1, 7), 1), [((1, 1), None, (9, 10))])
        self.assertEqual(shown((13, 13), (1, 1), 1), [((1, 1), (1, 1), (1, 1))])

    def test_for_more_pairs(self):
        self.assertEqual(
            shown((9, 10), (17, 20), 2),
            [((9, 10), (9, 10), (1, 1)), ((1, 1), None, (9, 10)), ((10, 9), None, (9, 10))],
        )
        self.assertEqual(
            shown((9, 10), (9, 10), 3),
            [((81, 100), (10, 9), (10, 9)), ((9, 10), (1, 1), (1, 1)), ((1, 1), (9, 10), (9, 10)),
             ((10, 9), None, (9, 10)), ((100, 81), None, (9, 10))],
        )
        self.assertEqual(shown((13, 13), (14, 13), 3), [((1, 1), (1, 1), None)])

    def test_one_triple_for_each_ratio_in_order(self):
        for shop in SHOPS:
            for wished in WISHED:
                for pairs in (1, 2, 3):
                    told = shown(shop, wished, pairs)
                    self.assertIs(type(told), list)
                    self.assertEqual([(type(triple), len(triple)) for triple in told], [(tuple, 3)] * len(told))
                    self.assertEqual([triple[0] for triple in told], all_ratios(shop, pairs - 1))

    def test_the_second_and_third_ones_are_neighbours_or_the_same(self):
        for shop in SHOPS:
            row = all_ratios(shop, 1)
            for wished in WISHED:
                for pairs in (1, 2, 3):
                    for _, below, above in shown(shop, wished, pairs):
                        # One place on at most, where the ends lie outside of the row.
                        low = -1 if below is None else row.index(below)
                        high = len(row) if above is None else row.index(above)
                        self.assertIn(high - low, (0, 1))

    def test_the_products_are_on_the_right_side(self):
        for shop in SHOPS:
            for wished in WISHED:
                goal = Fraction(*wished)
                for pairs in (1, 2, 3):
                    for first, below, above in shown(shop, wished, pairs):
                        last = train_fractions(shop, 1)
                        fitting = [told for told in last if told * Fraction(*first) <= goal]
                        wanted = as_ratio(max(fitting)) if fitting else None
                        self.assertEqual(below, wanted)
                        fitting = [told for told in last if told * Fraction(*first) >= goal]
                        wanted = as_ratio(min(fitting)) if fitting else None
                        self.assertEqual(above, wanted)

    def test_the_products_come_to_the_nearest(self):
        for shop in SHOPS:
            for wished in WISHED:
                for pairs in (1, 2, 3):
                    triples = shown(shop, wished, pairs)
                    below = [Fraction(*one) * Fraction(*other) for one, other, _ in triples if other is not None]
                    above = [Fraction(*one) * Fraction(*other) for one, _, other in triples if other is not None]
                    wanted = (max(below, default=None), min(above, default=None))
                    self.assertEqual(sizes(nearest(shop, wished, pairs)), wanted)


class TestWhatIsToldMayBeChanged(unittest.TestCase):
    def test_trains_of_reached(self):
        for wished in ((9, 10), (81, 100), (729, 1000), (1, 1)):
            wanted = list(reached((9, 10), wished, 3))
            told = reached((9, 10), wished, 3)
            told.append((5, 5))
            told[0] = (2, 2)
            self.assertEqual(reached((9, 10), wished, 3), wanted)

    def test_trains_of_nearest(self):
        for wished in WISHED:
            wanted = copy.deepcopy(nearest((9, 12), wished, 3))
            for train in nearest((9, 12), wished, 3):
                if train is not None:
                    train.append((5, 5))
                    train[0] = (2, 2)
            self.assertEqual(nearest((9, 12), wished, 3), wanted)

    def test_triples_of_shown(self):
        for wished in WISHED:
            wanted = copy.deepcopy(shown((9, 12), wished, 2))
            told = shown((9, 12), wished, 2)
            told.append(((1, 1), None, None))
            told[0] = None
            told.reverse()
            self.assertEqual(shown((9, 12), wished, 2), wanted)


class TestRefusals(unittest.TestCase):
    WRONG = WRONG_PAIRS + [0]

    def check(self, error, shop, wished, pairs):
        """Each search refuses with the error and leaves all as it was."""
        handed = (shop, wished, pairs)
        before = copy.deepcopy(handed)
        for name, search in SEARCHES.items():
            with self.subTest(name=name, handed=handed):
                self.assertRaises(error, search, *handed)
                self.assertEqual(handed, before)

    def test_what_is_no_shop(self):
        for shop in WRONG_SHOPS:
            self.check(BadShop, shop, (9, 10), 2)

    def test_what_is_no_ratio(self):
        for wished in WRONG_RATIOS:
            self.check(BadRatio, (9, 12), wished, 2)

    def test_what_is_no_number_of_pairs(self):
        for pairs in self.WRONG:
            self.check(BadPairs, (9, 12), (9, 10), pairs)
            # Neither a ratio that one pair reaches nor one beyond all lets them pass.
            self.check(BadPairs, (9, 12), (1, 1), pairs)
            self.check(BadPairs, (9, 12), (1000000, 1), pairs)

    def test_the_shop_ahead_of_the_ratio_and_the_pairs(self):
        for shop in WRONG_SHOPS:
            self.check(BadShop, shop, (0, 1), 2)
            self.check(BadShop, shop, (9, 10), 4)
            self.check(BadShop, shop, (0, 1), 4)
        for wished in WRONG_RATIOS:
            for pairs in self.WRONG:
                self.check(BadShop, (9, 13), wished, pairs)

    def test_the_ratio_ahead_of_the_pairs(self):
        for wished in WRONG_RATIOS:
            for pairs in self.WRONG:
                self.check(BadRatio, (9, 12), wished, pairs)

    def test_nothing_where_all_are_good(self):
        for shop in GOOD_SHOPS:
            for wished in ((1, 1), (1000000, 1), (1, 1000000), (1000000, 1000000)):
                for pairs in (1, 2, 3):
                    for search in SEARCHES.values():
                        search(shop, wished, pairs)


if __name__ == "__main__":
    unittest.main()
