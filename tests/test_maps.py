import random
import unittest

from lastfew.windows import Maps
from test_words import BIG

ROUND = 1000003
NUMBERS = [0, 1, 2, -1, -2, 17, 1000002, 1000003, 1000004, -1000003, BIG, -BIG]
POOL = NUMBERS + [3, 5, 999999, 10 ** 9 + 7, -(10 ** 12)]


def one_by_one(pairs, number):
    """What maps make of a number, straight from what the document says."""
    for times, more in pairs:
        number = times * number + more
    return number - ROUND * (number // ROUND)


def as_one(pairs):
    # A map is told by what it makes of 0 and of 1.
    more = one_by_one(pairs, 0)
    return ((one_by_one(pairs, 1) - more) % ROUND, more)


class MapsTest(unittest.TestCase):
    """[2.3]."""

    def check(self, maps, pairs):
        # Not assertEqual: to show how two long lists differ, unittest may take minutes.
        self.assertTrue(maps.maps() == [(times % ROUND, more % ROUND) for times, more in pairs])
        self.assertEqual(maps.whole(), as_one(pairs))
        for number in NUMBERS:
            self.assertEqual(maps.at(number), one_by_one(pairs, number))

    def test_of_none(self):
        for size in (1, 1000):
            maps = Maps(size)
            self.assertEqual(maps.maps(), [])
            self.assertEqual(maps.whole(), (1, 0))
            told = [maps.at(number) for number in (0, 1, 1000002, 1000003, 1000004, -1, -1000003, BIG, -BIG)]
            self.assertEqual(told, [0, 1, 1000002, 0, 1, 1000002, 0, 8999, 991004])

    def test_put_tells_none(self):
        maps = Maps(1)
        self.assertIsNone(maps.put(2, 3))
        self.assertIsNone(maps.put(2, 3))

    def test_the_earliest_is_done_first(self):
        maps = Maps(2)
        maps.put(2, 0)
        maps.put(1, 3)
        self.assertEqual(maps.whole(), (2, 3))
        self.assertEqual(maps.at(10), 23)
        maps.put(2, 0)
        self.assertEqual(maps.maps(), [(1, 3), (2, 0)])
        self.assertEqual(maps.whole(), (2, 6))
        self.assertEqual(maps.at(10), 26)

    def test_numbers_are_from_0_to_1000002(self):
        maps = Maps(9)
        for times, more in [(-1, 1000003), (1000004, -1000004), (BIG, -BIG), (0, 1000002)]:
            maps.put(times, more)
        self.assertEqual(maps.maps(), [(1000002, 0), (1, 1000002), (8999, 991004), (0, 1000002)])

    def test_by_0_all_are_made_alike(self):
        maps = Maps(3)
        maps.put(7, 7)
        maps.put(1000003, -1)
        self.assertEqual(maps.whole(), (0, 1000002))
        self.assertEqual([maps.at(number) for number in (0, 5, -BIG)], [1000002] * 3)
        # It goes at last, and what stood ahead of it is gone as well.
        for more in (1, 1, 1):
            maps.put(1, more)
        self.assertEqual(maps.whole(), (1, 3))

    def test_one_map(self):
        for times in NUMBERS:
            for more in NUMBERS:
                maps = Maps(1)
                maps.put(3, 4)
                maps.put(times, more)
                self.check(maps, [(times, more)])

    def test_behind_each_put_of_long_rows(self):
        for size in (1, 2, 3, 5, 12):
            chance = random.Random(size)
            maps = Maps(size)
            row = []
            for place in range(size * 12):
                row.append((chance.choice(POOL), chance.choice(POOL)))
                maps.put(row[-1][0], row[-1][1])
                self.check(maps, row[-size:])

    def test_the_greatest_size(self):
        chance = random.Random(1000)
        maps = Maps(1000)
        row = []
        for place in range(2300):
            row.append((chance.randint(-BIG, BIG), chance.randint(-BIG, BIG)))
            maps.put(row[-1][0], row[-1][1])
            if place in (998, 999, 1000, 1001, 2299):
                self.check(maps, row[-1000:])

    def test_kinds(self):
        maps = Maps(2)
        for place in range(4):
            whole = maps.whole()
            self.assertIs(type(whole), tuple)
            self.assertEqual([type(number) for number in whole], [int, int])
            self.assertIs(type(maps.maps()), list)
            for pair in maps.maps():
                self.assertIs(type(pair), tuple)
                self.assertEqual([type(number) for number in pair], [int, int])
            maps.put(-place, place)

    def test_maps_are_each_by_themselves(self):
        one = Maps(2)
        other = Maps(2)
        one.put(5, 5)
        self.assertEqual((other.maps(), other.whole()), ([], (1, 0)))
