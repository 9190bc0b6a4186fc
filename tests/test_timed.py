import random
import unittest

from lastfew.errors import Late, NoWord
from lastfew.windows import Timed
from lastfew.words import word_of
from test_words import BIG, NUMBERS, PICKS, WORDS, plain_words

POOL = [0, 0, 1, 2, 2, 3, 7, -1, -1, -8, BIG, -BIG]


class Plain:
    """A timed window that forgets nothing, and so has to look at every tick."""

    def __init__(self, span):
        self.span = span
        self.now = 0
        self.came = []

    def there(self):
        return [place for place, pair in enumerate(self.came) if self.now - self.span + 1 <= pair[0] <= self.now]

    def told(self, places):
        return [self.came[place][1] for place in places]

    def go_on(self, tick):
        before = self.there()
        self.now = tick
        after = self.there()
        return self.told([place for place in before if place not in after])

    def put(self, tick, thing):
        gone = self.go_on(tick)
        self.came.append((tick, thing))
        return gone


class TimedTest(unittest.TestCase):
    """[2.2], and [1.1] and [1.2] through it."""

    def check(self, timed, time, things):
        self.assertEqual(timed.time(), time)
        self.assertEqual(timed.things(), things)
        self.assertEqual({name: timed.word(name) for name in WORDS}, plain_words(things))

    def test_of_none(self):
        for span in (1, 1000):
            timed = Timed(span)
            self.check(timed, 0, [])
            self.assertEqual(timed.go_on(0), [])
            self.check(timed, 0, [])
            self.assertEqual([timed.word(name) for name in NUMBERS], [0] * 6)
            self.assertEqual([timed.word(name) for name in PICKS], [None] * 6)

    def test_a_short_row_by_hand(self):
        timed = Timed(3)
        self.assertEqual(timed.put(0, 5), [])
        self.assertEqual(timed.put(0, 4), [])
        self.assertEqual(timed.put(2, 9), [])
        self.check(timed, 2, [5, 4, 9])
        self.assertEqual(timed.go_on(2), [])
        self.assertEqual(timed.put(3, 1), [5, 4])
        self.check(timed, 3, [9, 1])
        self.assertEqual(timed.go_on(4), [])
        self.check(timed, 4, [9, 1])
        self.assertEqual(timed.go_on(5), [9])
        self.check(timed, 5, [1])
        self.assertEqual(timed.go_on(6), [1])
        self.check(timed, 6, [])

    def test_steps_round_the_span(self):
        for span in (1, 2, 3, 10, 1000):
            for start in (0, 1, 17, BIG - 5000):
                for step in (0, 1, span - 1, span, span + 1, 50 * span):
                    with self.subTest(span=span, start=start, step=step):
                        self.step_on(span, start, step)

    def step_on(self, span, start, step):
        going = [8, 0, 8] if step >= span else []
        staying = [] if step >= span else [8, 0, 8]
        by_going = Timed(span)
        by_putting = Timed(span)
        for timed in (by_going, by_putting):
            for thing in [8, 0, 8]:
                self.assertEqual(timed.put(start, thing), [])
        self.assertEqual(by_going.go_on(start + step), going)
        self.check(by_going, start + step, staying)
        self.assertEqual(by_putting.put(start + step, -3), going)
        self.check(by_putting, start + step, staying + [-3])

    def test_a_span_of_1_has_the_one_tick_alone(self):
        timed = Timed(1)
        self.assertEqual(timed.put(0, 1), [])
        self.assertEqual(timed.put(0, 2), [])
        self.assertEqual(timed.put(1, 3), [1, 2])
        self.assertEqual(timed.go_on(1), [])
        self.check(timed, 1, [3])
        self.assertEqual(timed.go_on(2), [3])

    def test_those_that_go_are_told_once_as_they_came(self):
        timed = Timed(4)
        for time, thing in [(1, 9), (1, 3), (2, 7), (4, 0), (4, 9)]:
            timed.put(time, thing)
        self.assertEqual(timed.go_on(6), [9, 3, 7])
        self.assertEqual(timed.go_on(6), [])
        self.assertEqual(timed.put(10 ** 14, 1), [0, 9])
        self.assertEqual(timed.go_on(10 ** 15), [1])
        self.check(timed, 10 ** 15, [])

    def test_more_things_at_one_tick_than_the_span(self):
        row = [(place * 37) % 11 for place in range(2500)]
        timed = Timed(2)
        for thing in row:
            self.assertEqual(timed.put(5, thing), [])
        # Not assertEqual: to show how two long lists differ, unittest may take minutes.
        self.assertTrue(timed.things() == row)
        for name in WORDS:
            self.assertEqual(timed.word(name), word_of(row, name))
        self.assertEqual(timed.put(6, 1), [])
        self.assertTrue(timed.go_on(7) == row)
        self.check(timed, 7, [1])

    def test_behind_each_move_of_long_rows(self):
        for span in (1, 2, 3, 8, 50):
            for seed in range(4):
                with self.subTest(span=span, seed=seed):
                    self.follow(span, random.Random(seed * 100 + span))

    def follow(self, span, chance):
        timed = Timed(span)
        plain = Plain(span)
        now = 0
        for place in range(150):
            now += chance.choice([0, 0, 0, 0, 1, 1, 2, max(0, span - 1), span, span + 1, 40 * span + 7])
            if chance.random() < 0.7:
                thing = chance.choice(POOL)
                self.assertEqual(timed.put(now, thing), plain.put(now, thing))
            else:
                self.assertEqual(timed.go_on(now), plain.go_on(now))
            self.check(timed, now, plain.told(plain.there()))

    def test_a_long_row_is_forgotten(self):
        fresh = Timed(5)
        worn = Timed(5)
        for place in range(5000):
            worn.put(place // 3, place)
        for time, thing in [(2000, 4), (2001, 4), (2004, 1)]:
            fresh.put(time, thing)
            worn.put(time, thing)
        self.check(worn, 2004, [4, 4, 1])
        self.assertEqual(worn.go_on(2005), fresh.go_on(2005))

    def test_the_list_of_those_that_go_is_a_list_each_time(self):
        timed = Timed(2)
        for told in (timed.go_on(0), timed.put(0, 1), timed.go_on(9), timed.put(9, 1), timed.go_on(20)):
            self.assertIs(type(told), list)

    def test_timed_windows_are_each_by_itself(self):
        one = Timed(3)
        other = Timed(3)
        one.put(2, 7)
        self.check(other, 0, [])
        other.put(1, 5)
        self.check(one, 2, [7])

    def test_no_other_words(self):
        timed = Timed(3)
        for name in ("", "Sum", "time", "go_on"):
            with self.subTest(name=name), self.assertRaises(NoWord):
                timed.word(name)


class LateTest(unittest.TestCase):
    """[2.2]: Late if the tick is less than the one that it is."""

    def refused(self, timed, time):
        with self.assertRaises(Late):
            timed.go_on(time)
        with self.assertRaises(Late):
            timed.put(time, 1)

    def test_below_0_at_first(self):
        for time in (-1, -2, -1000, -BIG):
            timed = Timed(3)
            self.refused(timed, time)
            self.assertEqual((timed.time(), timed.things()), (0, []))

    def test_any_tick_that_is_less(self):
        for now in (1, 2, 7, 5000, BIG):
            for by_putting in (True, False):
                timed = Timed(3)
                if by_putting:
                    timed.put(now, 4)
                else:
                    timed.go_on(now)
                for time in (now - 1, now // 2, 0, -1, -BIG):
                    with self.subTest(now=now, time=time, by_putting=by_putting):
                        self.refused(timed, time)
                        self.assertEqual(timed.time(), now)
                        self.assertEqual(timed.things(), [4] if by_putting else [])
                self.assertEqual(timed.go_on(now), [])

    def test_less_though_within_the_span(self):
        timed = Timed(1000)
        timed.put(10, 1)
        self.refused(timed, 9)
        self.assertEqual(timed.put(10, 2), [])
        self.assertEqual(timed.things(), [1, 2])
