import itertools
import subprocess
import sys
import unittest
from pathlib import Path

from lastfew.errors import BadWindow, FewError, Late, NoKey, NoWord
from lastfew.words import word_of

NUMBERS = ["many", "sum", "unlike", "wrong", "rising", "mark"]
PICKS = ["first", "last", "least", "greatest", "middle", "commonest"]
WORDS = NUMBERS + PICKS
BIG = 999999999999999
ROOT = Path(__file__).resolve().parent.parent

# Each row: the things, then what the words come to in the order of WORDS.
ROWS = [
    ("no things", [], [0, 0, 0, 0, 0, 0, None, None, None, None, None, None]),
    ("one thing", [7], [1, 7, 1, 0, 1, 7, 7, 7, 7, 7, 7, 7]),
    ("one 0", [0], [1, 0, 1, 0, 1, 0, 0, 0, 0, 0, 0, 0]),
    ("one below 0", [-1], [1, -1, 1, 0, 1, 1000002, -1, -1, -1, -1, -1, -1]),
    ("alike, odd", [4, 4, 4], [3, 12, 1, 0, 3, 3972, 4, 4, 4, 4, 4, 4]),
    ("alike, even", [4, 4], [2, 8, 1, 0, 2, 128, 4, 4, 4, 4, 4, 4]),
    ("rising, odd", [1, 2, 3], [3, 6, 3, 0, 3, 1026, 1, 3, 1, 3, 2, 1]),
    ("rising, even", [1, 2, 3, 4], [4, 10, 4, 0, 4, 31810, 1, 4, 1, 4, 2, 1]),
    ("falling, odd", [3, 2, 1], [3, 6, 3, 3, 1, 2946, 3, 1, 1, 3, 2, 1]),
    ("falling, even", [4, 3, 2, 1], [4, 10, 4, 6, 1, 122110, 4, 1, 1, 4, 2, 1]),
    ("two, rising", [5, 9], [2, 14, 2, 0, 2, 164, 5, 9, 5, 9, 5, 5]),
    ("two, falling", [9, 5], [2, 14, 2, 1, 1, 284, 9, 5, 5, 9, 5, 5]),
    ("mixed", [2, 9, 9, 1, 5, 2], [6, 28, 4, 8, 3, 839033, 2, 2, 1, 9, 2, 2]),
    ("below 0", [-3, -1, -2, -3], [4, -9, 3, 3, 2, 909604, -3, -3, -3, -1, -3, -3]),
    ("15 figures", [BIG], [1, BIG, 1, 0, 1, 8999, BIG, BIG, BIG, BIG, BIG, BIG]),
    ("15 figures below 0", [-BIG], [1, -BIG, 1, 0, 1, 991004, -BIG, -BIG, -BIG, -BIG, -BIG, -BIG]),
]


def plain_mark(things):
    mark = 0
    for thing in things:
        mark = 31 * mark + thing
        mark -= 1000003 * (mark // 1000003)
    return mark


def plain_rising(things):
    starts = range(len(things))
    runs = [things[a:b + 1] for a in starts for b in starts if a <= b]
    return max([len(run) for run in runs if run == sorted(run)], default=0)


def plain_words(things):
    """The same words once more, straight from what the document says."""
    pairs = list(itertools.combinations(things, 2))
    told = {
        "many": sum(1 for thing in things),
        "sum": sum(things),
        "unlike": len(dict.fromkeys(things)),
        "wrong": sum(1 for earlier, later in pairs if earlier > later),
        "rising": plain_rising(things),
        "mark": plain_mark(things),
    }
    if not things:
        return {**told, **dict.fromkeys(PICKS)}
    ordered = sorted(things)
    while len(ordered) > 2:
        ordered = ordered[1:-1]
    often = max(things.count(thing) for thing in things)
    told.update({
        "first": things[0],
        "last": things[len(things) - 1],
        "least": sorted(things)[0],
        "greatest": sorted(things)[-1],
        "middle": ordered[0],
        "commonest": min(thing for thing in things if things.count(thing) == often),
    })
    return told


def all_words(things):
    return {name: word_of(things, name) for name in WORDS}


class KnownRowsTest(unittest.TestCase):
    def test_rows(self):
        for title, things, told in ROWS:
            for name, value in zip(WORDS, told, strict=True):
                with self.subTest(title=title, name=name):
                    self.assertEqual(word_of(things, name), value)

    def test_of_no_things_numbers_are_0_and_picks_none(self):
        for name in NUMBERS:
            with self.subTest(name):
                self.assertEqual(word_of([], name), 0)
                self.assertIs(type(word_of([], name)), int)
        for name in PICKS:
            with self.subTest(name):
                self.assertIsNone(word_of([], name))

    def test_picks_of_zeros_are_0_and_not_none(self):
        for name in PICKS:
            with self.subTest(name):
                self.assertEqual(word_of([0, 0], name), 0)


class EachWordTest(unittest.TestCase):
    def check(self, name, things, value):
        with self.subTest(name=name, things=things):
            self.assertEqual(word_of(things, name), value)

    def test_wrong_counts_pairs_that_lie_apart(self):
        self.check("wrong", [3, 1, 2], 2)
        self.check("wrong", [2, 3, 1], 2)

    def test_wrong_does_not_count_alike_ones(self):
        self.check("wrong", [2, 2, 2, 2], 0)
        self.check("wrong", [2, 1, 2, 1], 3)
        self.check("wrong", [1, 2, 2, 1], 2)

    def test_wrong_of_many_falling(self):
        self.check("wrong", list(range(1000, 0, -1)), 1000 * 999 // 2)

    def test_rising_goes_over_alike_ones(self):
        self.check("rising", [1, 1, 2, 2, 1], 4)

    def test_rising_is_one_behind_the_other_without_a_gap(self):
        self.check("rising", [1, 9, 2, 8, 3, 7], 2)

    def test_rising_takes_the_longest_wherever_it_stands(self):
        self.check("rising", [1, 2, 3, 0, 5], 3)
        self.check("rising", [5, 0, 1, 2], 3)
        self.check("rising", [9, 1, 2, 3, 4, 0, 1], 4)

    def test_mark_is_of_the_order(self):
        self.check("mark", [1, 2], 33)
        self.check("mark", [2, 1], 63)

    def test_mark_at_the_edge_of_its_round(self):
        self.check("mark", [1000002], 1000002)
        self.check("mark", [1000003], 0)
        self.check("mark", [1000004], 1)
        self.check("mark", [-1000003], 0)
        self.check("mark", [-1000004], 1000002)
        self.check("mark", [32258, 5], 0)

    def test_middle_of_two_is_the_lesser(self):
        self.check("middle", [8, 1], 1)
        self.check("middle", [40, 10, 30, 20], 20)
        self.check("middle", [-1, -2], -2)

    def test_middle_is_in_order_not_as_they_came(self):
        self.check("middle", [9, 1, 5], 5)
        self.check("middle", [1, 9, 5], 5)
        self.check("middle", [7, 7, 1, 7, 2], 7)

    def test_commonest_of_several_is_the_least(self):
        self.check("commonest", [5, 3, 5, 3, 1], 3)
        self.check("commonest", [3, 5, 3, 5, 1], 3)
        self.check("commonest", [0, -4, 0, -4], -4)
        self.check("commonest", [9, 8, 7], 7)

    def test_commonest_is_not_the_least_where_one_comes_more_often(self):
        self.check("commonest", [1, 6, 2, 6], 6)
        self.check("commonest", [1, 1, 6, 6, 6], 6)

    def test_first_and_last_are_as_they_came(self):
        self.check("first", [5, 1, 9, 4], 5)
        self.check("last", [5, 1, 9, 4], 4)


class AgainstPlainWordsTest(unittest.TestCase):
    def test_every_short_row(self):
        for length in range(6):
            for row in itertools.product([-2, 0, 1, 3], repeat=length):
                things = list(row)
                self.assertEqual(all_words(things), plain_words(things), things)

    def test_things_of_15_figures(self):
        for length in range(1, 5):
            for row in itertools.product([-BIG, BIG - 1, BIG, -1], repeat=length):
                things = list(row)
                self.assertEqual(all_words(things), plain_words(things), things)
                self.assertIn(word_of(things, "mark"), range(1000003))

    def test_a_long_row(self):
        things = [(place * place * 7919) % 401 - 200 for place in range(300)]
        self.assertEqual(all_words(things), plain_words(things))


class NoWordTest(unittest.TestCase):
    def wrong_words(self):
        wrong = ["", " ", "su", "um", "m", "man", "firs", "sums", "manymany", "sum sum", "many,sum"]
        wrong += ["Sum", "SUM", "total", "word_of", "count", "0", "None", "None\n", "\x00", "\ud800"]
        wrong += ["summe", "gr\u00f6\u00dfte", "x" * 5000, "__class__"]
        for word in WORDS:
            wrong += [" " + word, word + " ", word + "\n", "\t" + word, word + "\x00"]
            wrong += [word.title(), word.upper(), word[:-1], word[1:], word + word, word + "s"]
        return wrong

    def test_any_other_text_is_refused(self):
        for things in ([], [1], [3, 1, 2]):
            for name in self.wrong_words():
                with self.subTest(things=things, name=name[:20]):
                    with self.assertRaises(NoWord):
                        word_of(things, name)

    def test_it_is_that_refusal_and_no_other(self):
        for things in ([], [1]):
            with self.assertRaises(FewError) as taken:
                word_of(things, "Sum")
            self.assertIs(type(taken.exception), NoWord)
            self.assertNotIsInstance(taken.exception, (BadWindow, Late, NoKey))

    def test_a_refusal_changes_nothing(self):
        things = [3, 1, 2]
        with self.assertRaises(NoWord):
            word_of(things, "sort")
        self.assertEqual(things, [3, 1, 2])


class NothingChangedTest(unittest.TestCase):
    def test_the_things_are_as_before(self):
        for title, things, told in ROWS:
            for name in WORDS:
                handed = list(things)
                word_of(handed, name)
                with self.subTest(title=title, name=name):
                    self.assertEqual(handed, things)

    def test_nothing_is_kept_from_one_call_to_the_next(self):
        things = [4, 1, 4]
        before = all_words(things)
        all_words([9, 9, 9, 0, -5])
        self.assertEqual(all_words(things), before)
        things.append(-7)
        self.assertEqual(all_words(things), plain_words([4, 1, 4, -7]))

    def test_whole_numbers_are_told(self):
        for title, things, told in ROWS:
            for name in WORDS:
                value = word_of(things, name)
                with self.subTest(title=title, name=name):
                    self.assertIn(type(value), (int, type(None)))

    def test_it_needs_no_clock_chance_or_files(self):
        # A Python of its own: here, unittest has long drawn all of these in.
        script = (
            "import sys; before = set(sys.modules); import lastfew.words; "
            "print(sorted(set(sys.modules) - before))"
        )
        told = subprocess.run(
            [sys.executable, "-B", "-c", script], cwd=ROOT, capture_output=True, text=True, check=True
        )
        self.assertEqual(told.stdout.strip(), "['lastfew', 'lastfew.errors', 'lastfew.words']")
