import random
import unittest

from lastfew.errors import Late, NoKey, NoWord
from lastfew.groups import Groups
from lastfew.saves import saved, woken
from lastfew.windows import Maps, Timed, Window
from test_whole import Followed, MAKERS, asked, histories, make_move, next_move
from test_words import BIG


def most_numbers(kept):
    """How many numbers there may be at most, as [3.1] tells."""
    if isinstance(kept, Maps):
        return 5 + 2 * len(kept.maps())
    if isinstance(kept, Groups):
        things = sum(len(kept.things(key)) for key in kept.used())
        return 5 + 2 * things + 2 * len(kept.used())
    return 5 + 2 * len(kept.things())


class SavedTest(Followed):
    """[3.1], and [0.2] through it."""

    def check(self, kept):
        before = asked(kept)
        numbers = saved(kept)
        self.assertIs(type(numbers), list)
        self.assertEqual({type(number) for number in numbers} - {int}, set())
        self.assertLessEqual(len(numbers), most_numbers(kept))
        self.alike(asked(kept), before)
        fresh = woken(numbers)
        self.assertIs(type(fresh), type(kept))
        self.assertIsNot(fresh, kept)
        self.alike(asked(fresh), before)
        self.alike(saved(fresh), numbers)
        return fresh

    def test_of_none_yet_put(self):
        for title, maker in MAKERS.items():
            with self.subTest(title):
                self.go_on_alike(self.check(maker()), maker(), 60)

    def test_behind_rows_of_several_lengths(self):
        for seed in range(3):
            for title, kept, twin in histories((1, 2, 3, 5, 9, 40, 120), seed):
                with self.subTest(title=title, seed=seed):
                    self.go_on_alike(self.check(kept), kept)
                    self.go_on_alike(self.check(kept), kept)

    def test_woken_behind_each_move(self):
        for title, maker in MAKERS.items():
            chance = random.Random(title)
            kept = maker()
            plain = maker()
            with self.subTest(title):
                for place in range(60):
                    move = next_move(plain, chance)
                    self.alike(make_move(kept, move), make_move(plain, move))
                    kept = self.check(kept)
                    self.alike(asked(kept), asked(plain))

    def test_what_is_put_into_one_leaves_the_other(self):
        for title, kept, twin in histories((0, 1, 5, 40)):
            chance = random.Random(title)
            with self.subTest(title):
                fresh = self.check(kept)
                for place in range(20):
                    make_move(fresh, next_move(fresh, chance))
                    self.alike(asked(kept), asked(twin))
                moved = asked(fresh)
                for place in range(20):
                    make_move(kept, next_move(kept, chance))
                    self.alike(asked(fresh), moved)

    def test_two_woken_out_of_one_list_are_each_by_itself(self):
        for title, kept, twin in histories((3, 40)):
            numbers = saved(kept)
            one = woken(numbers)
            other = woken(numbers)
            chance = random.Random(title)
            for place in range(20):
                make_move(one, next_move(one, chance))
            with self.subTest(title):
                self.alike(asked(other), asked(twin))

    def test_a_list_keeps_while_what_was_saved_goes_on(self):
        for title, kept, twin in histories((5, 40)):
            numbers = saved(kept)
            before = list(numbers)
            chance = random.Random(title)
            for place in range(20):
                make_move(kept, next_move(kept, chance))
            with self.subTest(title):
                self.alike(numbers, before)
                self.alike(asked(woken(numbers)), asked(twin))

    def test_no_more_numbers_however_long_the_row_was(self):
        for title, maker in MAKERS.items():
            chance = random.Random(title)
            kept = maker()
            for place in range(6000):
                make_move(kept, next_move(kept, chance))
            with self.subTest(title):
                self.go_on_alike(self.check(kept), kept, 5)

    def test_things_that_went_are_not_saved(self):
        timed = Timed(10)
        for time in range(500):
            timed.put(time, time)
        self.assertLessEqual(len(saved(timed)), 25)
        timed.go_on(5000)
        self.assertLessEqual(len(saved(timed)), 5)
        self.assertEqual(woken(saved(timed)).time(), 5000)

    def test_the_size_of_a_window_is_woken(self):
        for size in (1, 2, 999, 1000):
            window = woken(saved(Window(size)))
            told = [window.put(thing) for thing in range(size + 2)]
            self.alike(told, [None] * size + [0, 1])

    def test_the_span_and_the_tick_of_a_timed_window_are_woken(self):
        for span in (1, 2, 999, 1000):
            timed = Timed(span)
            timed.go_on(40)
            timed = woken(saved(timed))
            self.assertEqual(timed.time(), 40)
            with self.assertRaises(Late):
                timed.go_on(39)
            timed.put(41, 5)
            timed = woken(saved(timed))
            self.assertEqual(timed.go_on(40 + span), [])
            timed = woken(saved(timed))
            self.assertEqual(timed.time(), 40 + span)
            self.assertEqual(timed.go_on(41 + span), [5])

    def test_the_tick_of_each_thing_is_woken(self):
        timed = Timed(5)
        for time, thing in [(1, 0), (1, 4), (2, -BIG), (4, 4)]:
            timed.put(time, thing)
        timed = woken(saved(timed))
        told = [timed.go_on(time) for time in (5, 6, 7, 8, 9)]
        self.assertEqual(told, [[], [0, 4], [-BIG], [], [4]])

    def test_the_size_of_maps_is_woken(self):
        for size in (1, 2, 1000):
            maps = woken(saved(Maps(size)))
            for place in range(size + 1):
                maps.put(place, -1)
            self.alike(maps.maps(), [(place, 1000002) for place in range(1, size + 1)])

    def test_size_keys_and_their_order_of_groups_are_woken(self):
        groups = Groups(2, 3)
        for key, thing in [(5, 1), (-6, 2), (0, 3), (5, 4), (5, 5)]:
            groups.put(key, thing)
        groups = woken(saved(groups))
        self.assertEqual(groups.used(), [-6, 0, 5])
        self.assertEqual([groups.things(key) for key in (-6, 0, 5)], [[2], [3], [4, 5]])
        self.assertEqual(groups.put(8, 9), -6)
        with self.assertRaises(NoKey):
            groups.things(-6)
        self.assertEqual([groups.put(5, 6), groups.put(9, 7)], [None, 0])
        self.assertEqual(groups.things(5), [5, 6])

    def test_both_numbers_of_empty_groups_are_woken(self):
        for size, most in [(1, 1000), (1000, 1), (3, 2)]:
            groups = woken(saved(Groups(size, most)))
            for thing in range(size + 1):
                groups.put(-1, thing)
            self.alike(groups.things(-1), list(range(1, size + 1)))
            told = [groups.put(key, 0) for key in range(most)]
            self.alike(told, [None] * (most - 1) + [-1])

    def test_full_groups(self):
        groups = Groups(20, 1000)
        for place in range(25000):
            groups.put(place % 1003, place)
        self.check(groups)

    def test_numbers_that_look_like_others(self):
        # Things, keys and ticks that are like a size, a count or the sign of a kind.
        for number in range(-1, 7):
            window = Window(3)
            window.put(number)
            timed = Timed(3)
            timed.put(abs(number), number)
            maps = Maps(3)
            maps.put(number, number)
            groups = Groups(3, 3)
            groups.put(number, number)
            for kept in (window, timed, maps, groups):
                for turn in range(2):
                    with self.subTest(number=number, kind=type(kept).__name__):
                        self.check(kept)
                    if isinstance(kept, (Window, Groups)):
                        make_move(kept, next_move(kept, random.Random(number)))

    def test_a_woken_one_refuses_alike(self):
        groups = Groups(2, 2)
        groups.put(4, 1)
        groups = woken(saved(groups))
        with self.assertRaises(NoKey):
            groups.word(1, "Sum")
        with self.assertRaises(NoWord):
            groups.word(4, "Sum")
        for kept in (Window(2), Timed(2)):
            with self.assertRaises(NoWord):
                woken(saved(kept)).word("Sum")
