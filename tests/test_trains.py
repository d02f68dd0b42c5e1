"""Trains: [1], [3] to [8], [16] and the interface of wheeltrain/trains.py."""

import copy
import unittest
from fractions import Fraction

from samples import GOOD, STAGES, WRONG_TRAINS, WRONG_WHEELS, turns_by_fractions
from wheeltrain.errors import BadPlace, BadTrain, BadWheel, TooLong
from wheeltrain.trains import about, idled, joined, need_train, plain, ratio, turns

# Each function that takes a train, with everything else that it is handed good.
TAKERS = {
    "need_train": need_train,
    "turns": turns,
    "ratio": ratio,
    "about": about,
    "plain": plain,
    "joined, first": lambda train: joined(train, [(12, 30)]),
    "joined, second": lambda train: joined([(12, 30)], train),
    "idled": lambda train: idled(train, 0, 1, 20),
}


def other_way(told):
    return (-told[0], told[1])


def exchanged(told):
    top, bottom = told
    return (bottom, top) if top > 0 else (-bottom, -top)


def product(one, other):
    told = Fraction(*one) * Fraction(*other)
    return (told.numerator, told.denominator)


class TestNeedTrain(unittest.TestCase):
    def test_good_trains(self):
        for train in GOOD:
            self.assertEqual(need_train(train), train)

    def test_every_number_of_teeth(self):
        for teeth in range(2, 61):
            self.assertEqual(need_train([(teeth, teeth)]), [(teeth, teeth)])

    def test_the_list_is_a_new_one(self):
        old = [(12, 30, 8), (9, 45)]
        told = need_train(old)
        self.assertIsNot(told, old)
        self.assertIs(type(told), list)
        told[0] = (2, 2)
        told.append((3, 3))
        self.assertEqual(old, [(12, 30, 8), (9, 45)])
        again = need_train(old)
        old.clear()
        self.assertEqual(again, [(12, 30, 8), (9, 45)])

    def test_one_and_three_stages_two_and_five_wheels_are_good(self):
        for train in ([(12, 30)], [(12, 30)] * 3, [(2, 3, 4, 5, 6)], [(2, 3, 4, 5, 6)] * 3):
            self.assertEqual(need_train(train), train)


class TestWhatIsNoTrain(unittest.TestCase):
    def test_each_function_refuses_it(self):
        for name, taker in TAKERS.items():
            for thing in WRONG_TRAINS:
                with self.subTest(name=name, thing=thing):
                    self.assertRaises(BadTrain, taker, thing)

    def test_what_is_refused_stays_as_it_was(self):
        for name, taker in TAKERS.items():
            for thing in copy.deepcopy(WRONG_TRAINS):
                before = copy.deepcopy(thing)
                self.assertRaises(BadTrain, taker, thing)
                self.assertEqual(thing, before, name)


class TestWhatIsGoodStays(unittest.TestCase):
    def test_each_function_leaves_the_train_as_it_was(self):
        for name, taker in TAKERS.items():
            for stage in STAGES:
                train = [stage[:4], (9, 45)]
                before = copy.deepcopy(train)
                taker(train)
                self.assertEqual(train, before, name)

    def test_what_is_told_is_a_new_list(self):
        for name, taker in TAKERS.items():
            if name == "ratio":
                continue
            train = [(12, 30, 8), (9, 45)]
            told = taker(train)
            wanted = copy.deepcopy(told)
            told.append(told[0])
            del told[0]
            self.assertEqual(train, [(12, 30, 8), (9, 45)], name)
            self.assertEqual(taker(train), wanted, name)
            other = taker(train)
            train[0] = (2, 2)
            self.assertEqual(other, wanted, name)


class TestTurns(unittest.TestCase):
    def test_two_wheels(self):
        self.assertEqual(turns([(12, 30)]), [[(1, 1), (-2, 5)]])
        self.assertEqual(turns([(30, 12)]), [[(1, 1), (-5, 2)]])
        self.assertEqual(turns([(7, 7)]), [[(1, 1), (-1, 1)]])

    def test_several_stages_with_idle_wheels(self):
        self.assertEqual(
            turns([(12, 30, 8), (9, 45), (10, 4, 6, 3, 60)]),
            [[(1, 1), (-2, 5), (3, 2)],
             [(3, 2), (-3, 10)],
             [(-3, 10), (3, 4), (-1, 2), (1, 1), (-1, 20)]],
        )

    def test_every_wheel_of_many_trains(self):
        for train in GOOD:
            self.assertEqual(turns(train), turns_by_fractions(train))

    def test_the_first_wheel_turns_once(self):
        for train in GOOD:
            self.assertEqual(turns(train)[0][0], (1, 1))

    def test_wheels_on_one_axle_turn_alike(self):
        for train in GOOD:
            told = turns(train)
            for ahead, behind in zip(told, told[1:]):
                self.assertEqual(behind[0], ahead[-1])

    def test_a_next_wheel_goes_the_other_way_round(self):
        for train in GOOD:
            for row in turns(train):
                for one, other in zip(row, row[1:]):
                    self.assertLess(one[0] * other[0], 0)

    def test_kinds(self):
        told = turns([(12, 30, 8), (9, 45)])
        self.assertIs(type(told), list)
        for row in told:
            self.assertIs(type(row), list)
            for told_turn in row:
                self.assertIs(type(told_turn), tuple)
                self.assertEqual([type(number) for number in told_turn], [int, int])

    def test_what_is_told_may_be_changed(self):
        train = [(12, 30, 8), (9, 45)]
        wanted = [[(1, 1), (-2, 5), (3, 2)], [(3, 2), (-3, 10)]]
        told = turns(train)
        told[0][0] = (5, 5)
        told[1].append((6, 6))
        del told[0][1]
        told.append([])
        self.assertEqual(turns(train), wanted)
        self.assertEqual(train, [(12, 30, 8), (9, 45)])


class TestRatio(unittest.TestCase):
    def test_ordinary_trains(self):
        self.assertEqual(ratio([(12, 30)]), (-2, 5))
        self.assertEqual(ratio([(12, 30, 8)]), (3, 2))
        self.assertEqual(ratio([(12, 30, 8), (9, 45)]), (-3, 10))
        self.assertEqual(ratio([(12, 12), (12, 12)]), (1, 1))
        self.assertEqual(ratio([(60, 2)] * 3), (-27000, 1))
        self.assertEqual(ratio([(2, 60)] * 3), (-1, 27000))
        self.assertEqual(ratio([(59, 2, 3, 4, 60)]), (59, 60))

    def test_it_is_the_turns_of_the_last_wheel(self):
        for train in GOOD:
            self.assertEqual(ratio(train), turns_by_fractions(train)[-1][-1])


class TestAbout(unittest.TestCase):
    def test_stages_and_wheels_go_the_other_way_round(self):
        self.assertEqual(about([(12, 30)]), [(30, 12)])
        self.assertEqual(about([(12, 30, 8), (9, 45)]), [(45, 9), (8, 30, 12)])
        self.assertEqual(
            about([(2, 3, 4, 5, 6), (7, 8), (9, 10, 11)]),
            [(11, 10, 9), (8, 7), (6, 5, 4, 3, 2)],
        )

    def test_the_ratio_has_top_and_bottom_exchanged(self):
        self.assertEqual(ratio(about([(12, 30)])), (-5, 2))
        self.assertEqual(ratio(about([(12, 30, 8)])), (2, 3))
        for train in GOOD:
            self.assertEqual(ratio(about(train)), exchanged(ratio(train)))

    def test_twice_it_is_the_train(self):
        for train in GOOD:
            self.assertEqual(about(about(train)), train)

    def test_the_list_is_new_though_the_train_stays_the_same(self):
        train = [(7, 8, 7)]
        told = about(train)
        self.assertEqual(told, train)
        told.append((2, 2))
        self.assertEqual(train, [(7, 8, 7)])


class TestPlain(unittest.TestCase):
    def test_the_first_and_the_last_wheel_of_each_stage(self):
        self.assertEqual(plain([(12, 30)]), [(12, 30)])
        self.assertEqual(plain([(12, 30, 8)]), [(12, 8)])
        self.assertEqual(
            plain([(2, 3, 4, 5, 6), (7, 8), (9, 10, 11)]),
            [(2, 6), (7, 8), (9, 11)],
        )
        for train in GOOD:
            self.assertEqual(plain(train), [(stage[0], stage[-1]) for stage in train])

    def test_the_list_is_new_though_the_train_was_plain(self):
        train = [(12, 30), (9, 45)]
        told = plain(train)
        told.append((2, 2))
        self.assertEqual(train, [(12, 30), (9, 45)])


class TestJoined(unittest.TestCase):
    def test_the_stages_of_the_first_and_then_of_the_second(self):
        self.assertEqual(joined([(12, 30)], [(9, 45, 8)]), [(12, 30), (9, 45, 8)])
        self.assertEqual(joined([(9, 45, 8)], [(12, 30)]), [(9, 45, 8), (12, 30)])

    def test_three_stages_together_are_good(self):
        one, two = [(2, 3)], [(4, 5, 6), (7, 8)]
        self.assertEqual(joined(one, two), [(2, 3), (4, 5, 6), (7, 8)])
        self.assertEqual(joined(two, one), [(4, 5, 6), (7, 8), (2, 3)])

    def test_more_than_three_stages_are_too_long(self):
        for many, more in ((1, 3), (3, 1), (2, 2), (2, 3), (3, 2), (3, 3)):
            one, other = [(12, 30)] * many, [(9, 45)] * more
            with self.subTest(many=many, more=more):
                self.assertRaises(TooLong, joined, one, other)
                self.assertEqual((one, other), ([(12, 30)] * many, [(9, 45)] * more))

    def test_the_ratio_is_the_product(self):
        for one in STAGES:
            for other in STAGES:
                for third in STAGES[::3]:
                    first, second = [one, other], [third]
                    told = product(ratio(first), ratio(second))
                    self.assertEqual(ratio(joined(first, second)), told)
                    self.assertEqual(ratio(joined(second, first)), told)

    def test_what_is_no_train_is_refused_ahead_of_too_long(self):
        three = [(12, 30)] * 3
        for wrong in WRONG_TRAINS:
            self.assertRaises(BadTrain, joined, wrong, three)
            self.assertRaises(BadTrain, joined, three, wrong)
            self.assertRaises(BadTrain, joined, wrong, wrong)

    def test_a_train_joined_to_itself(self):
        train = [(12, 30)]
        told = joined(train, train)
        self.assertEqual(told, [(12, 30), (12, 30)])
        told.append((2, 2))
        self.assertEqual(train, [(12, 30)])

    def test_both_trains_stay_as_they_were(self):
        one, other = [(12, 30)], [(9, 45), (2, 3)]
        told = joined(one, other)
        told.clear()
        self.assertEqual((one, other), ([(12, 30)], [(9, 45), (2, 3)]))


class TestIdled(unittest.TestCase):
    def test_at_the_first_and_at_the_last_place(self):
        self.assertEqual(idled([(12, 30)], 0, 1, 20), [(12, 20, 30)])
        self.assertEqual(idled([(12, 30, 8)], 0, 1, 20), [(12, 20, 30, 8)])
        self.assertEqual(idled([(12, 30, 8)], 0, 2, 20), [(12, 30, 20, 8)])
        self.assertEqual(idled([(12, 30, 8, 9)], 0, 2, 20), [(12, 30, 20, 8, 9)])
        self.assertEqual(idled([(12, 30, 8, 9)], 0, 3, 20), [(12, 30, 8, 20, 9)])

    def test_in_each_stage(self):
        train = [(2, 3), (4, 5), (6, 7)]
        self.assertEqual(idled(train, 0, 1, 20), [(2, 20, 3), (4, 5), (6, 7)])
        self.assertEqual(idled(train, 1, 1, 20), [(2, 3), (4, 20, 5), (6, 7)])
        self.assertEqual(idled(train, 2, 1, 20), [(2, 3), (4, 5), (6, 20, 7)])
        self.assertEqual(train, [(2, 3), (4, 5), (6, 7)])

    def test_the_least_and_the_most_teeth(self):
        self.assertEqual(idled([(12, 30)], 0, 1, 2), [(12, 2, 30)])
        self.assertEqual(idled([(12, 30)], 0, 1, 60), [(12, 60, 30)])

    def test_the_ratio_goes_the_other_way_round_and_else_stays(self):
        for train in GOOD:
            for stage, wheels in enumerate(train):
                if len(wheels) < 5:
                    for place in range(1, len(wheels)):
                        told = idled(train, stage, place, 37)
                        self.assertEqual(ratio(told), other_way(ratio(train)))
                        self.assertEqual(plain(told), plain(train))

    def test_a_stage_of_five_wheels_has_no_room(self):
        train = [(12, 30), (2, 3, 4, 5, 6), (12, 30, 8, 9)]
        before = list(train)
        for place in range(1, 5):
            self.assertRaises(TooLong, idled, train, 1, place, 20)
        self.assertEqual(train, before)
        self.assertEqual(idled(train, 0, 1, 20), [(12, 20, 30), (2, 3, 4, 5, 6), (12, 30, 8, 9)])
        self.assertEqual(idled(train, 2, 3, 20), [(12, 30), (2, 3, 4, 5, 6), (12, 30, 8, 20, 9)])

    def test_no_such_stage(self):
        for stage in (2, 3, -1, -2, 10 ** 30, True, False, None, "0", "", [0], (0,), {}):
            train = [(12, 30, 8), (9, 45, 8)]
            with self.subTest(stage=stage):
                self.assertRaises(BadPlace, idled, train, stage, 1, 20)
                self.assertEqual(train, [(12, 30, 8), (9, 45, 8)])

    def test_no_such_place(self):
        for place in (0, 3, 4, -1, -2, 10 ** 30, True, False, None, "1", "", [1], (1,), {}):
            train = [(9, 45, 8, 7), (12, 30, 8)]
            with self.subTest(place=place):
                self.assertRaises(BadPlace, idled, train, 1, place, 20)
                self.assertEqual(train, [(9, 45, 8, 7), (12, 30, 8)])

    def test_one_beyond_the_last_place_of_each_length(self):
        for many in range(2, 6):
            self.assertRaises(BadPlace, idled, [(12,) * many], 0, many, 20)
            self.assertRaises(BadPlace, idled, [(12,) * many], 0, 0, 20)

    def test_no_wheel(self):
        for teeth in WRONG_WHEELS:
            train = [(12, 30, 8)]
            with self.subTest(teeth=teeth):
                self.assertRaises(BadWheel, idled, train, 0, 1, teeth)
                self.assertEqual(train, [(12, 30, 8)])


class TestIdledRefusesTheFirstWrongThing(unittest.TestCase):
    FULL = [(2, 3, 4, 5, 6)]

    def test_a_bad_train_ahead_of_all(self):
        for wrong in WRONG_TRAINS:
            self.assertRaises(BadTrain, idled, wrong, 9, 1, 20)
            self.assertRaises(BadTrain, idled, wrong, 0, 0, 20)
            self.assertRaises(BadTrain, idled, wrong, 0, 1, 61)
            self.assertRaises(BadTrain, idled, wrong, None, None, None)

    def test_a_bad_train_ahead_of_too_long(self):
        self.assertRaises(BadTrain, idled, self.FULL + [(12, 61)], 0, 1, 20)

    def test_a_bad_place_ahead_of_a_bad_wheel(self):
        for stage, place in ((1, 1), (-1, 1), (True, 1), (0, 0), (0, 2), (0, -1), (0, True), (5, 5)):
            for teeth in WRONG_WHEELS:
                self.assertRaises(BadPlace, idled, [(12, 30)], stage, place, teeth)

    def test_a_bad_place_ahead_of_too_long(self):
        for stage, place in ((1, 1), (-1, 1), (False, 1), (0, 0), (0, 5), (0, -1), (0, True)):
            self.assertRaises(BadPlace, idled, self.FULL, stage, place, 20)
            self.assertRaises(BadPlace, idled, self.FULL, stage, place, 61)

    def test_a_bad_wheel_ahead_of_too_long(self):
        for teeth in WRONG_WHEELS:
            for place in range(1, 5):
                self.assertRaises(BadWheel, idled, self.FULL, 0, place, teeth)


if __name__ == "__main__":
    unittest.main()
