import random
import unittest

from lastfew.errors import NoKey, NoWord
from lastfew.groups import Groups
from test_words import BIG, WORDS, plain_words

KEYS = [0, 1, 2, -1, 5, BIG, -BIG]
THINGS = [0, 0, 1, 2, 2, -7, BIG, -BIG]


class Plain:
    """Groups that keep the whole row, and look through it anew each time."""

    def __init__(self, size, most):
        self.size = size
        self.most = most
        self.row = []

    def used(self):
        places = {key: place for place, (key, thing) in enumerate(self.row)}
        return sorted(places, key=places.get)

    def put(self, key, thing):
        used = self.used()
        forgotten = used[0] if key not in used and len(used) == self.most else None
        self.row = [pair for pair in self.row if forgotten is None or pair[0] != forgotten]
        self.row.append((key, thing))
        return forgotten

    def things(self, key):
        return [thing for other, thing in self.row if other == key][-self.size:]


class GroupsTest(unittest.TestCase):
    """[2.4], and [1.1] and [1.2] through it."""

    def check(self, groups, used, things_of):
        self.assertEqual(groups.used(), used)
        for key in used:
            things = things_of(key)
            self.assertEqual(groups.things(key), things)
            self.assertEqual({name: groups.word(key, name) for name in WORDS}, plain_words(things))

    def no_key(self, groups, key):
        with self.assertRaises(NoKey):
            groups.things(key)
        for name in WORDS + ["", "Sum", "no word"]:
            with self.assertRaises(NoKey):
                groups.word(key, name)

    def test_of_none(self):
        groups = Groups(1, 1)
        self.assertEqual(groups.used(), [])
        for key in KEYS:
            self.no_key(groups, key)

    def test_a_short_row_by_hand(self):
        groups = Groups(2, 2)
        self.assertIsNone(groups.put(7, 1))
        self.assertIsNone(groups.put(8, 2))
        self.assertIsNone(groups.put(7, 3))
        self.assertIsNone(groups.put(7, 4))
        self.check(groups, [8, 7], {7: [3, 4], 8: [2]}.get)
        self.assertEqual(groups.put(9, 5), 8)
        self.check(groups, [7, 9], {7: [3, 4], 9: [5]}.get)
        self.no_key(groups, 8)
        self.assertEqual(groups.put(8, 6), 7)
        self.check(groups, [9, 8], {8: [6], 9: [5]}.get)
        self.no_key(groups, 7)

    def test_fewer_and_just_as_many_keys_forget_none(self):
        groups = Groups(3, 4)
        for turn in range(5):
            for key in [3, 1, 4, 2]:
                self.assertIsNone(groups.put(key, turn))
        self.check(groups, [3, 1, 4, 2], lambda key: [2, 3, 4])

    def test_a_key_put_for_anew_is_the_last(self):
        groups = Groups(3, 3)
        for key in [1, 2, 3]:
            groups.put(key, 0)
        for key, used in [(1, [2, 3, 1]), (3, [2, 1, 3]), (3, [2, 1, 3]), (2, [1, 3, 2])]:
            self.assertIsNone(groups.put(key, 0))
            self.assertEqual(groups.used(), used)
        self.assertEqual(groups.put(9, 0), 1)
        self.assertEqual(groups.used(), [3, 2, 9])

    def test_asking_for_a_key_does_not_count_as_putting(self):
        groups = Groups(3, 2)
        groups.put(1, 10)
        groups.put(2, 20)
        groups.things(1)
        groups.word(1, "sum")
        self.assertEqual(groups.used(), [1, 2])
        self.assertEqual(groups.put(3, 30), 1)

    def test_a_key_0_that_is_forgotten_is_told_as_0(self):
        groups = Groups(1, 1)
        self.assertIsNone(groups.put(0, 5))
        forgotten = groups.put(1, 5)
        self.assertIsNotNone(forgotten)
        self.assertEqual(forgotten, 0)
        self.assertEqual(groups.put(0, 6), 1)

    def test_what_a_forgotten_key_had_is_gone_when_it_comes_back(self):
        groups = Groups(5, 2)
        for thing in (1, 2, 3):
            groups.put(7, thing)
        groups.put(8, 0)
        self.assertEqual(groups.put(9, 0), 7)
        self.assertEqual(groups.put(7, 4), 8)
        self.assertEqual(groups.things(7), [4])
        self.assertEqual(groups.word(7, "many"), 1)

    def test_one_key_alone(self):
        groups = Groups(2, 1)
        told = [groups.put(key, key) for key in [4, 4, 5, 4, -1, -1, -1]]
        self.assertEqual(told, [None, None, 4, 5, 4, None, None])
        self.check(groups, [-1], lambda key: [-1, -1])

    def test_the_thing_that_goes_from_a_window_is_not_told(self):
        groups = Groups(1, 2)
        self.assertEqual([groups.put(3, thing) for thing in (1, 2, 3)], [None, None, None])
        self.assertEqual(groups.things(3), [3])

    def test_no_key_ahead_of_no_word(self):
        groups = Groups(2, 2)
        groups.put(1, 1)
        for name in ("", "Sum", "used", "key"):
            with self.subTest(name=name):
                with self.assertRaises(NoWord):
                    groups.word(1, name)
                with self.assertRaises(NoKey):
                    groups.word(2, name)

    def test_behind_each_put_of_long_rows(self):
        for size, most in [(1, 1), (1, 3), (2, 2), (3, 5), (4, 1), (2, 6), (2, 7), (5, 20)]:
            with self.subTest(size=size, most=most):
                self.follow(size, most, random.Random(size * 100 + most))

    def follow(self, size, most, chance):
        groups = Groups(size, most)
        plain = Plain(size, most)
        for place in range(200):
            key = chance.choice(KEYS)
            thing = chance.choice(THINGS)
            self.assertEqual(groups.put(key, thing), plain.put(key, thing))
            self.check(groups, plain.used(), plain.things)
            for other in KEYS:
                if other not in plain.used():
                    self.no_key(groups, other)

    def test_the_greatest_numbers(self):
        groups = Groups(1000, 1000)
        for key in range(1000):
            self.assertIsNone(groups.put(key, -key))
        # Not assertEqual: to show how two long lists differ, unittest may take minutes.
        self.assertTrue(groups.used() == list(range(1000)))
        for thing in range(1200):
            self.assertIsNone(groups.put(0, thing))
        self.assertTrue(groups.things(0) == list(range(200, 1200)))
        self.assertEqual(groups.put(1000, 5), 1)
        self.assertTrue(groups.used() == list(range(2, 1000)) + [0, 1000])
        self.no_key(groups, 1)

    def test_groups_are_each_by_themselves(self):
        one = Groups(2, 2)
        other = Groups(2, 2)
        one.put(1, 1)
        self.assertEqual(other.used(), [])
        other.put(1, 9)
        self.assertEqual((one.things(1), other.things(1)), ([1], [9]))
