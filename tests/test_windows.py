import random
import unittest

from lastfew.errors import NoWord
from lastfew.windows import Window
from lastfew.words import word_of
from test_words import BIG, PICKS, NUMBERS, WORDS, plain_words

POOL = [0, 0, 1, 2, 2, 3, 7, -1, -1, -8, BIG, BIG - 1, -BIG, 1000003, -1000003]


def words_of(window):
    return {name: window.word(name) for name in WORDS}


def rows(length):
    """Long rows of several kinds, each with its name."""
    chance = random.Random(length)
    return {
        "from a pool": [chance.choice(POOL) for place in range(length)],
        "of 15 figures": [chance.randint(-BIG, BIG) for place in range(length)],
        "alike": [4] * length,
        "zeros": [0] * length,
        "rising": list(range(-5, length - 5)),
        "falling": list(range(length, 0, -1)),
        "two by turns": [place % 2 for place in range(length)],
    }


class WindowTest(unittest.TestCase):
    """[2.1], and [1.1] and [1.2] through it."""

    def test_of_none(self):
        for size in (1, 2, 1000):
            window = Window(size)
            self.assertEqual(window.things(), [])
            for name in NUMBERS:
                self.assertEqual(window.word(name), 0)
            for name in PICKS:
                self.assertIsNone(window.word(name))

    def test_a_short_row_by_hand(self):
        window = Window(3)
        self.assertEqual([window.put(thing) for thing in [5, 0, -2, 9, 9, 1]], [None, None, None, 5, 0, -2])
        self.assertEqual(window.things(), [9, 9, 1])
        told = [3, 19, 2, 2, 2, 31 * (31 * 9 + 9) + 1, 9, 1, 1, 9, 9, 9]
        self.assertEqual([window.word(name) for name in WORDS], told)

    def test_a_thing_0_that_goes_is_told_as_0(self):
        window = Window(1)
        self.assertIsNone(window.put(0))
        gone = window.put(0)
        self.assertIsNotNone(gone)
        self.assertEqual(gone, 0)
        self.assertEqual(window.put(7), 0)
        self.assertEqual(window.put(0), 7)

    def test_behind_each_put_of_long_rows(self):
        for size in (1, 2, 3, 4, 7):
            for title, row in rows(size * 12).items():
                with self.subTest(size=size, row=title):
                    self.follow(size, row, plain_words)

    def test_behind_each_put_with_a_greater_size(self):
        for title, row in rows(600).items():
            with self.subTest(row=title):
                self.follow(60, row, lambda things: {name: word_of(things, name) for name in WORDS})

    def follow(self, size, row, by_themselves):
        window = Window(size)
        for place, thing in enumerate(row):
            gone = window.put(thing)
            if place < size:
                self.assertIsNone(gone)
            else:
                self.assertEqual(gone, row[place - size])
                self.assertIs(type(gone), int)
            last_few = row[max(0, place + 1 - size):place + 1]
            self.assertEqual(window.things(), last_few)
            self.assertEqual(words_of(window), by_themselves(last_few))

    def test_the_greatest_size(self):
        row = rows(3500)["from a pool"]
        window = Window(1000)
        for place, thing in enumerate(row):
            self.assertEqual(window.put(thing), row[place - 1000] if place >= 1000 else None)
            if place % 250 == 0 or place in (998, 999, 1000, 1001, 3499):
                last_few = row[max(0, place - 999):place + 1]
                # Not assertEqual: to show how two long lists differ, unittest may take minutes.
                self.assertTrue(window.things() == last_few)
                self.assertEqual(words_of(window), {name: word_of(last_few, name) for name in WORDS})

    def test_a_row_is_forgotten_behind_a_row_as_long_as_the_window(self):
        for size in (1, 2, 5, 30):
            fresh = Window(size)
            worn = Window(size)
            for thing in rows(400)["of 15 figures"]:
                worn.put(thing)
            for thing in rows(size)["from a pool"]:
                fresh.put(thing)
                worn.put(thing)
            self.assertEqual(worn.things(), fresh.things())
            self.assertEqual(words_of(worn), words_of(fresh))

    def test_asking_changes_nothing(self):
        window = Window(4)
        for thing in [3, 1, 2, 1, 0]:
            window.put(thing)
        first = words_of(window)
        self.assertEqual(words_of(window), first)
        self.assertEqual(window.things(), [1, 2, 1, 0])
        self.assertEqual(window.put(8), 1)

    def test_windows_are_each_by_itself(self):
        one = Window(2)
        other = Window(2)
        one.put(1)
        self.assertEqual(other.things(), [])
        other.put(2)
        self.assertEqual((one.things(), other.things()), ([1], [2]))

    def test_no_other_words(self):
        for row in ([], [1], [3, 1, 2, 4]):
            window = Window(3)
            for thing in row:
                window.put(thing)
            for name in ("", "Sum", "sum ", "things", "put", "x" * 3000):
                with self.subTest(row=row, name=name[:10]), self.assertRaises(NoWord):
                    window.word(name)
