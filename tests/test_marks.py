"""Marks: [1], [9], [16] and the interface of wheeltrain/marks.py."""

import copy
import unittest
from fractions import Fraction

from samples import GOOD, WRONG_TRAINS, turns_by_fractions
from wheeltrain.errors import BadTrain
from wheeltrain.marks import meeting

# Trains whose marks meet soon enough to try all numbers of turns one by one.
TRIED = [
    [(2, 2)], [(2, 3)], [(3, 2)], [(12, 30)], [(30, 12)], [(60, 2)], [(2, 60)], [(59, 53)], [(7, 7, 7)],
    [(12, 30, 8)], [(12, 31, 12)], [(10, 20, 30, 40)], [(2, 60, 2, 60, 2)], [(2, 3, 5, 7)], [(4, 3, 5, 7, 9)],
    [(12, 30), (9, 45)], [(12, 30, 8), (9, 45)], [(2, 3), (3, 2)], [(2, 3), (5, 7)], [(9, 9), (9, 9)],
    [(2, 5, 2), (5, 3, 5, 2)], [(60, 2), (2, 60)],
    [(12, 30), (9, 45), (8, 10)], [(2, 3, 4), (5, 6), (7, 8, 9, 10)], [(8, 8)] * 3, [(2, 4, 6, 8, 2)] * 3,
    [(2, 3), (2, 5), (2, 7)], [(3, 2), (5, 2), (7, 2)], [(10, 11), (12, 13), (14, 15)],
]


def all_up(rows, number):
    """Whether each wheel has made whole turns behind so many turns of the first one."""
    return all(top * number % bottom == 0 for row in rows for top, bottom in row)


class TestMeeting(unittest.TestCase):
    def test_two_wheels(self):
        self.assertEqual(meeting([(12, 30)]), (5, [[5, -2]]))
        self.assertEqual(meeting([(30, 12)]), (2, [[2, -5]]))
        self.assertEqual(meeting([(60, 2)]), (1, [[1, -30]]))
        self.assertEqual(meeting([(2, 60)]), (30, [[30, -1]]))

    def test_teeth_without_a_common_divisor(self):
        self.assertEqual(meeting([(59, 53)]), (53, [[53, -59]]))
        self.assertEqual(meeting([(53, 59)]), (59, [[59, -53]]))
        self.assertEqual(meeting([(2, 3, 5, 7)]), (105, [[105, -70, 42, -30]]))
        self.assertEqual(meeting([(2, 3), (5, 7)]), (21, [[21, -14], [-14, 10]]))

    def test_wheels_with_as_many_teeth_meet_behind_one_turn(self):
        self.assertEqual(meeting([(7, 7)]), (1, [[1, -1]]))
        self.assertEqual(meeting([(60,) * 5]), (1, [[1, -1, 1, -1, 1]]))
        self.assertEqual(
            meeting([(9, 9, 9), (9, 9), (9, 9, 9, 9)]),
            (1, [[1, -1, 1], [1, -1], [-1, 1, -1, 1]]),
        )

    def test_idle_wheels_have_marks_too(self):
        self.assertEqual(meeting([(12, 12)]), (1, [[1, -1]]))
        self.assertEqual(meeting([(12, 31, 12)]), (31, [[31, -12, 31]]))
        self.assertEqual(meeting([(12, 30, 8)]), (10, [[10, -4, 15]]))

    def test_several_stages(self):
        self.assertEqual(meeting([(12, 30, 8), (9, 45)]), (10, [[10, -4, 15], [15, -3]]))
        self.assertEqual(meeting([(2, 3), (3, 2)]), (3, [[3, -2], [-2, 3]]))
        self.assertEqual(
            meeting([(2, 3), (2, 5), (2, 7)]),
            (105, [[105, -70], [-70, 28], [28, -8]]),
        )

    def test_great_numbers(self):
        self.assertEqual(meeting([(2, 59), (2, 53), (2, 47)])[0], 59 * 53 * 47)
        self.assertEqual(meeting([(2, 60)] * 3), (27000, [[27000, -900], [-900, 30], [30, -1]]))

    def test_no_lesser_number_of_turns_does(self):
        for train in TRIED:
            rows = turns_by_fractions(train)
            number = 1
            while not all_up(rows, number):
                number += 1
            with self.subTest(train=train):
                self.assertEqual(meeting(train)[0], number)

    def test_each_wheel_makes_just_so_many_whole_turns(self):
        for train in GOOD + TRIED:
            number, made = meeting(train)
            wanted = [[Fraction(*told) * number for told in row] for row in turns_by_fractions(train)]
            self.assertEqual(made, wanted)
            self.assertEqual(made[0][0], number)

    def test_the_ways_round(self):
        for train in GOOD:
            for row in meeting(train)[1]:
                for one, other in zip(row, row[1:]):
                    self.assertLess(one * other, 0)

    def test_kinds(self):
        told = meeting([(12, 30, 8), (9, 45)])
        self.assertIs(type(told), tuple)
        self.assertEqual(len(told), 2)
        self.assertIs(type(told[0]), int)
        self.assertIs(type(told[1]), list)
        for row in told[1]:
            self.assertIs(type(row), list)
            self.assertEqual({type(many) for many in row}, {int})

    def test_what_is_no_train_is_refused(self):
        for thing in copy.deepcopy(WRONG_TRAINS):
            before = copy.deepcopy(thing)
            with self.subTest(thing=thing):
                self.assertRaises(BadTrain, meeting, thing)
                self.assertEqual(thing, before)

    def test_the_train_stays_as_it_was(self):
        for train in copy.deepcopy(TRIED):
            before = copy.deepcopy(train)
            meeting(train)
            self.assertEqual(train, before)

    def test_what_is_told_may_be_changed(self):
        for train in TRIED:
            wanted = copy.deepcopy(meeting(train))
            told = meeting(train)
            told[1][0][0] = 99
            told[1][-1].append(99)
            told[1].append([99])
            del told[1][0][1:]
            self.assertEqual(meeting(train), wanted)

    def test_each_told_row_is_changed_alone(self):
        told = meeting([(8, 8), (8, 8), (8, 8)])[1]
        told[0].append(99)
        self.assertEqual(told[1:], [[-1, 1], [1, -1]])

    def test_what_is_told_stays_where_the_train_is_changed(self):
        train = [(12, 30, 8), (9, 45)]
        told = meeting(train)
        train[0] = (2, 2)
        train.append((3, 5))
        self.assertEqual(told, (10, [[10, -4, 15], [15, -3]]))


if __name__ == "__main__":
    unittest.main()
