"""Texts: [1], [15], [16] and the interface of wheeltrain/texts.py."""

import copy
import itertools
import unittest

from samples import GOOD, WRONG_TRAINS
from wheeltrain.errors import BadTrain, NoText
from wheeltrain.texts import read, written

BOTH_WAYS = {
    "12:30:8 9:45": [(12, 30, 8), (9, 45)],
    "2:2": [(2, 2)],
    "60:60": [(60, 60)],
    "2:60:2:60:2": [(2, 60, 2, 60, 2)],
    "9:10 10:11 11:12": [(9, 10), (10, 11), (11, 12)],
    "2:3:4:5:6 7:8:9:10:11 12:13:14:15:16": [(2, 3, 4, 5, 6), (7, 8, 9, 10, 11), (12, 13, 14, 15, 16)],
}

WRONG_TEXTS = [
    # Blanks, line ends and tabs.
    "", " ", "  ", "\n", "\t", " 12:30", "12:30 ", "12:30  9:45", " 12:30 9:45", "12:30 9:45 ", "12:30\n", "12:30\t",
    "\n12:30", "\t12:30", "12:30\n9:45", "12:30\t9:45", "12:30 \n9:45", "12:30\r", "12:30\r\n", "12:30\r\n9:45",
    "12: 30", "12 :30", "12 : 30", "1 2:30", "12:3 0", "12:30 9:45\n", "12:30\n 9:45",
    # Noughts ahead and signs.
    "012:30", "12:030", "00:30", "0:30", "12:0", "12:00030", "+12:30", "12:+30", "-12:30", "12:-30", "12:30 09:45",
    "12:30 +9:45", "1_2:30", "12:3_0", "12.0:30", "0x12:30", "1e1:30",
    # Empty wheels and stages.
    ":", "::", ":30", "12:", "12::30", ":12:30", "12:30:", "12:30 :", "12:30 : 9:45", "12:30 9:", "12:30 :45",
    # One wheel, six wheels, four stages.
    "12", "12 30", "12:30 9", "9 12:30", "2:3:4:5:6:7", "12:30 2:3:4:5:6:7", "2:3 2:3 2:3 2:3", "2:3 2:3 2:3 2:3 2:3",
    # Teeth that no wheel has.
    "1:30", "12:1", "61:30", "12:61", "12:30 1:2", "12:30 2:61", "100:12", "12:600", "12:" + "9" * 5000,
    # Other signs.
    "12;30", "12,30", "12/30", "12-30", "(12, 30)", "[(12, 30)]", "12:30,9:45", "12:30;9:45", "12:30_9:45", "a:b",
    "ab", "12:3O", "twelve:30", "'12:30'", "12:30#", "None", "True:12",
]

NO_TEXTS = [None, 12, 0, True, False, [], ["12:30"], ("12:30",), {}, {"12:30": 1}, b"12:30", [(12, 30)], [(12, 30), (9, 45)]]


class TestWritten(unittest.TestCase):
    def test_ordinary_trains(self):
        for text, train in BOTH_WAYS.items():
            told = written(train)
            self.assertEqual(told, text)
            self.assertIs(type(told), str)

    def test_what_is_no_train(self):
        for thing in copy.deepcopy(WRONG_TRAINS):
            before = copy.deepcopy(thing)
            with self.subTest(thing=thing):
                self.assertRaises(BadTrain, written, thing)
                self.assertEqual(thing, before)

    def test_the_train_stays_as_it_was(self):
        for train in copy.deepcopy(GOOD):
            before = copy.deepcopy(train)
            written(train)
            self.assertEqual(train, before)

    def test_what_is_told_stays_where_the_train_is_changed(self):
        train = [(12, 30)]
        told = written(train)
        train[0] = (2, 2)
        self.assertEqual(told, "12:30")
        self.assertEqual(written(train), "2:2")


class TestRead(unittest.TestCase):
    def test_ordinary_texts(self):
        for text, train in BOTH_WAYS.items():
            self.assertEqual(read(text), train)

    def test_what_is_written_is_read_to_the_same_train(self):
        for train in GOOD:
            self.assertEqual(read(written(train)), train)

    def test_every_number_of_teeth(self):
        for teeth in range(2, 61):
            self.assertEqual(read(f"{teeth}:9"), [(teeth, 9)])
            self.assertEqual(read(f"12:30 9:{teeth}"), [(12, 30), (9, teeth)])
            self.assertEqual(written([(teeth, 9)]), f"{teeth}:9")

    def test_kinds(self):
        told = read("12:30:8 9:45")
        self.assertIs(type(told), list)
        for stage in told:
            self.assertIs(type(stage), tuple)
            self.assertEqual({type(teeth) for teeth in stage}, {int})

    def test_the_train_is_a_new_list(self):
        told = read("12:30 9:45")
        told.append((2, 2))
        told[0] = (3, 3)
        self.assertEqual(read("12:30 9:45"), [(12, 30), (9, 45)])

    def test_texts_that_are_not_so_written(self):
        for text in WRONG_TEXTS:
            with self.subTest(text=text[:40]):
                self.assertRaises(NoText, read, text)

    def test_a_sign_more_or_another_one_at_each_place(self):
        # Just the texts that are written so are read: what is read is written as it was.
        signs = [chr(code) for code in range(32, 127)] + ["\n", "\t", "\r"]
        for text in BOTH_WAYS:
            for at, sign in itertools.product(range(len(text) + 1), signs):
                for other in (text[:at] + sign + text[at:], text[:at] + sign + text[at + 1:]):
                    self.check_read_or_refused(other)

    def test_all_short_texts(self):
        for many in range(6):
            for signs in itertools.product("0126: +\n", repeat=many):
                self.check_read_or_refused("".join(signs))

    def check_read_or_refused(self, text):
        train = train_of(text)
        if train is None:
            self.assertRaises(NoText, read, text)
        else:
            self.assertEqual(read(text), train)

    def test_what_is_no_text(self):
        for thing in copy.deepcopy(NO_TEXTS):
            before = copy.deepcopy(thing)
            with self.subTest(thing=thing):
                self.assertRaises(NoText, read, thing)
                self.assertEqual(thing, before)


def train_of(text):
    """The train whose text this is, or None: its figures are read freely, then all is put together anew."""
    stages = []
    for part in text.split(" "):
        words = part.split(":")
        if not all(word.isdecimal() and len(word) < 4 for word in words):
            return None
        stages.append(tuple(int(word) for word in words))
    anew = " ".join(":".join(f"{teeth}" for teeth in stage) for stage in stages)
    fitting = (
        anew == text and len(stages) <= 3
        and all(2 <= len(stage) <= 5 for stage in stages)
        and all(2 <= teeth <= 60 for stage in stages for teeth in stage)
    )
    return stages if fitting else None


if __name__ == "__main__":
    unittest.main()
