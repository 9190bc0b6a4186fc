"""What holds of all four alike: the bounds, the refusals, the lists that are told, and the interface."""

import inspect
import random
import subprocess
import sys
import unittest
from pathlib import Path

from lastfew.errors import BadWindow, FewError, Late, NoKey, NoWord
from lastfew.groups import Groups
from lastfew.saves import saved, woken
from lastfew.windows import Maps, Timed, Window
from test_words import BIG, WORDS

ROOT = Path(__file__).resolve().parent.parent
POOL = [0, 0, 1, 2, 2, -1, -9, 1000003, BIG, -BIG]
KEYS = [0, 1, 2, -3, BIG, -BIG]
WRONG_WORDS = ["", " ", "Sum", "sum ", "things", "no word", "x" * 3000]

# Each: how one of them is made new, and which moves may come behind it.
MAKERS = {
    "window of 1": lambda: Window(1),
    "window of 4": lambda: Window(4),
    "window of 1000": lambda: Window(1000),
    "timed of 1": lambda: Timed(1),
    "timed of 5": lambda: Timed(5),
    "timed of 1000": lambda: Timed(1000),
    "maps of 1": lambda: Maps(1),
    "maps of 4": lambda: Maps(4),
    "maps of 1000": lambda: Maps(1000),
    "groups of 1 and 1": lambda: Groups(1, 1),
    "groups of 3 and 2": lambda: Groups(3, 2),
    "groups of 2 and 4": lambda: Groups(2, 4),
    "groups of 1000 and 1000": lambda: Groups(1000, 1000),
}

BOUNDED = {
    "window": Window,
    "timed": Timed,
    "maps": Maps,
    "size of groups": lambda number: Groups(number, 3),
    "keys of groups": lambda number: Groups(3, number),
}


def told_or_refused(call, *args):
    try:
        return call(*args)
    except FewError as error:
        return type(error)


def asked(kept):
    """All that one of the four tells without being changed."""
    if isinstance(kept, Maps):
        numbers = [0, 1, -1, 1000002, 1000003, BIG, -BIG]
        return [kept.maps(), kept.whole(), [kept.at(number) for number in numbers]]
    if isinstance(kept, Groups):
        keys = KEYS + [key for key in kept.used() if key not in KEYS]
        words = [[told_or_refused(kept.word, key, name) for name in WORDS + ["Sum"]] for key in keys]
        return [kept.used(), [told_or_refused(kept.things, key) for key in keys], words]
    words = [told_or_refused(kept.word, name) for name in WORDS + ["Sum"]]
    times = [kept.time()] if isinstance(kept, Timed) else []
    return [kept.things(), words] + times


def next_move(kept, chance):
    """A move that is taken: the method's name, and what is handed in."""
    if isinstance(kept, Timed):
        now = kept.time() + chance.choice([0, 0, 0, 0, 1, 1, 2, 4, 5, 6, 999, 1000, 10 ** 6])
        return chance.choice([("go_on", [now]), ("put", [now, chance.choice(POOL)]), ("put", [now, 7])])
    if isinstance(kept, Maps):
        return ("put", [chance.choice(POOL), chance.choice(POOL)])
    if isinstance(kept, Groups):
        return ("put", [chance.choice(KEYS), chance.choice(POOL)])
    return ("put", [chance.choice(POOL)])


def make_move(kept, move):
    return getattr(kept, move[0])(*move[1])


def histories(lengths=(0, 1, 2, 5, 40), seed=0):
    """Each of the makers, behind rows of several lengths; told with its name and one more that is just alike."""
    for title, maker in MAKERS.items():
        for length in lengths:
            chance = random.Random(f"{title} {length} {seed}")
            kept = maker()
            twin = maker()
            for place in range(length):
                move = next_move(kept, chance)
                make_move(kept, move)
                make_move(twin, move)
            yield f"{title}, behind {length}", kept, twin


class Followed(unittest.TestCase):
    def alike(self, one, other):
        # Not assertEqual: to show how two long lists differ, unittest may take minutes.
        if one != other:
            self.fail(f"{one!r:.300} is not {other!r:.300}")

    def go_on_alike(self, one, other, length=30):
        chance = random.Random(length)
        self.alike(asked(one), asked(other))
        for place in range(length):
            move = next_move(one, chance)
            self.alike(make_move(one, move), make_move(other, move))
            self.alike(asked(one), asked(other))


class BoundsTest(unittest.TestCase):
    """[2.1] to [2.4]: sizes, spans and numbers of keys are from 1 to 1000."""

    def test_those_that_are_taken(self):
        for title, maker in BOUNDED.items():
            for number in (1, 2, 500, 999, 1000):
                with self.subTest(title=title, number=number):
                    maker(number)

    def test_those_that_are_refused(self):
        refused = [0, 1001, 1002, 2000, -1, -2, -1000, -1001, 10 ** 6, BIG, -BIG, 10 ** 15, 10 ** 5000, -10 ** 5000]
        for title, maker in BOUNDED.items():
            for number in refused:
                with self.subTest(title=title, figures=number.bit_length()):
                    with self.assertRaises(FewError) as taken:
                        maker(number)
                    self.assertIs(type(taken.exception), BadWindow)

    def test_both_numbers_of_groups(self):
        for size, most in [(0, 0), (1001, 1001), (0, 1001), (1000, 1001), (1001, 1000), (1, 0), (0, 1)]:
            with self.subTest(size=size, most=most), self.assertRaises(BadWindow):
                Groups(size, most)
        Groups(1, 1000)
        Groups(1000, 1)


class RefusalsTest(Followed):
    """[2.5]: what is refused changes nothing."""

    def refuse(self, error, call, *args):
        with self.assertRaises(FewError) as taken:
            call(*args)
        self.assertIs(type(taken.exception), error)

    def refuse_all(self, kept):
        for name in WRONG_WORDS:
            if isinstance(kept, (Window, Timed)):
                self.refuse(NoWord, kept.word, name)
        if isinstance(kept, Timed):
            for time in (kept.time() - 1, min(-1, kept.time() - 1000), -BIG):
                self.refuse(Late, kept.go_on, time)
                self.refuse(Late, kept.put, time, 5)
        if isinstance(kept, Groups):
            for key in kept.used():
                self.refuse(NoWord, kept.word, key, "Sum")
            for key in [77] + [key for key in KEYS if key not in kept.used()]:
                self.refuse(NoKey, kept.things, key)
                self.refuse(NoKey, kept.word, key, "sum")
                self.refuse(NoKey, kept.word, key, "Sum")

    def test_behind_each_refusal_all_is_as_it_was(self):
        for title, kept, twin in histories():
            with self.subTest(title):
                before = asked(kept)
                numbers = saved(kept)
                self.refuse_all(kept)
                self.alike(asked(kept), before)
                self.alike(saved(kept), numbers)
                self.go_on_alike(kept, twin)

    def test_what_is_refused_when_made_leaves_others_alone(self):
        for title, kept, twin in histories(lengths=(5,)):
            for number in (0, 1001):
                for maker in BOUNDED.values():
                    self.refuse(BadWindow, maker, number)
            self.alike(asked(kept), asked(twin))

    def test_a_late_put_drops_nothing_and_puts_nothing(self):
        timed = Timed(2)
        timed.put(5, 1)
        timed.put(6, 2)
        self.refuse(Late, timed.put, 5, 3)
        self.assertEqual((timed.time(), timed.things()), (6, [1, 2]))
        self.assertEqual(timed.go_on(7), [1])


class NewListsTest(Followed):
    """[0.1]: lists that are told are new ones."""

    def spoil(self, told):
        self.assertIs(type(told), list)
        told.append(12345)
        told[0] = 54321
        told.reverse()
        told.clear()
        told.extend([1, 2, 3])

    def lists_of(self, kept):
        if isinstance(kept, Maps):
            return [kept.maps]
        if isinstance(kept, Groups):
            return [kept.used] + [lambda key=key: kept.things(key) for key in kept.used()]
        return [kept.things]

    def test_lists_that_are_asked_for(self):
        for title, kept, twin in histories():
            with self.subTest(title):
                for call in self.lists_of(kept) + [lambda: saved(kept)]:
                    first = call()
                    before = list(first)
                    self.assertIsNot(call(), first)
                    self.spoil(first)
                    self.alike(call(), before)
                self.go_on_alike(kept, twin)

    def test_lists_that_moves_tell(self):
        for title, kept, twin in histories(lengths=(0, 3, 20)):
            if not isinstance(kept, Timed):
                continue
            chance = random.Random(title)
            with self.subTest(title):
                for place in range(40):
                    move = next_move(kept, chance)
                    told = make_move(kept, move)
                    self.alike(told, make_move(twin, move))
                    self.spoil(told)
                    self.alike(asked(kept), asked(twin))

    def test_a_list_handed_to_woken_stays_as_it_is_and_is_not_kept(self):
        for title, kept, twin in histories():
            with self.subTest(title):
                numbers = saved(kept)
                before = list(numbers)
                fresh = woken(numbers)
                self.alike(numbers, before)
                self.spoil(numbers)
                self.alike(asked(fresh), asked(twin))
                numbers = saved(twin)
                before = list(numbers)
                other = woken(numbers)
                self.go_on_alike(fresh, other)
                self.alike(numbers, before)


class InterfaceTest(unittest.TestCase):
    def parameters(self, call):
        return list(inspect.signature(call).parameters)

    def test_classes_and_their_arguments(self):
        told = {
            Window: ["size"],
            Timed: ["span"],
            Maps: ["size"],
            Groups: ["size", "most"],
        }
        for kind, names in told.items():
            self.assertEqual(self.parameters(kind), names)
            self.assertEqual(kind.__bases__, (object,))

    def test_methods_and_their_arguments(self):
        told = [
            (Window(1), {"put": ["thing"], "things": [], "word": ["name"]}),
            (
                Timed(1),
                {"time": [], "go_on": ["time"], "put": ["time", "thing"], "things": [], "word": ["name"]},
            ),
            (Maps(1), {"put": ["times", "more"], "whole": [], "at": ["number"], "maps": []}),
            (
                Groups(1, 1),
                {"put": ["key", "thing"], "used": [], "things": ["key"], "word": ["key", "name"]},
            ),
        ]
        for kept, methods in told:
            for name, names in methods.items():
                with self.subTest(kind=type(kept).__name__, method=name):
                    self.assertEqual(self.parameters(getattr(kept, name)), names)

    def test_functions_and_their_arguments(self):
        self.assertEqual(self.parameters(saved), ["kept"])
        self.assertEqual(self.parameters(woken), ["numbers"])

    def test_kinds_that_are_told(self):
        for title, kept, twin in histories(lengths=(0, 40)):
            with self.subTest(title):
                if isinstance(kept, Timed):
                    self.assertIs(type(kept.time()), int)
                if isinstance(kept, (Window, Timed)):
                    for name in WORDS:
                        self.assertIn(type(kept.word(name)), (int, type(None)))
                if isinstance(kept, Groups):
                    for key in kept.used():
                        self.assertEqual({type(kept.word(key, name)) for name in WORDS}, {int})


class NoClockTest(Followed):
    def test_nothing_else_is_drawn_in(self):
        # A Python of its own: here, unittest has long drawn all else in.
        script = (
            "import sys; before = set(sys.modules); import lastfew.saves; "
            "print(sorted(set(sys.modules) - before))"
        )
        told = subprocess.run(
            [sys.executable, "-B", "-c", script], cwd=ROOT, capture_output=True, text=True, check=True
        )
        names = ["", ".errors", ".groups", ".saves", ".windows", ".words"]
        self.assertEqual(told.stdout.strip(), str(["lastfew" + name for name in names]))

    def test_the_same_moves_come_to_the_same(self):
        for title, kept, twin in histories(lengths=(60,)):
            with self.subTest(title):
                self.alike(asked(kept), asked(twin))
                self.alike(saved(kept), saved(twin))


class SomewhatBeyondTest(unittest.TestCase):
    """Numbers of more than 15 figures are not refused."""

    def test_great_things_times_keys_and_maps(self):
        great = 10 ** 20 + 7
        window = Window(1)
        window.put(great)
        self.assertEqual(window.put(-great), great)
        timed = Timed(2)
        timed.put(great, great)
        self.assertEqual(timed.go_on(great + 2), [great])
        keyed = Groups(1, 1)
        keyed.put(great, great)
        self.assertEqual(keyed.put(-great, 1), great)
        maps = Maps(1)
        maps.put(great, -great)
        self.assertEqual(maps.whole(), (great % 1000003, -great % 1000003))
        self.assertEqual(maps.at(great), (great * great - great) % 1000003)
