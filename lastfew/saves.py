"""The saves: a window, a timed one, maps or groups as a list of whole numbers, and woken out of it.

The first number tells which of the four it is. Behind it stand:
a window: its size, and its things;
a timed window: its span, its tick, and for each thing the tick at which it was put, and the thing;
maps: their size, and for each map its two numbers;
groups: their size, how many keys there may be, and for each key the key, how many things it has, and these.
"""

from lastfew.groups import Groups
from lastfew.windows import Maps, Timed, Window

WINDOW = 1
TIMED = 2
MAPS = 3
GROUPS = 4


def flat(pairs):
    numbers = []
    for one, other in pairs:
        numbers.append(one)
        numbers.append(other)
    return numbers


def paired(numbers):
    return [(numbers[place], numbers[place + 1]) for place in range(0, len(numbers), 2)]


def saved_groups(groups):
    numbers = [GROUPS, groups.size, groups.most]
    for key in groups.used():
        things = groups.things(key)
        numbers.append(key)
        numbers.append(len(things))
        numbers.extend(things)
    return numbers


def saved(kept):
    if isinstance(kept, Window):
        return [WINDOW, kept.size] + kept.things()
    if isinstance(kept, Timed):
        return [TIMED, kept.span, kept.time()] + flat(kept.dated)
    if isinstance(kept, Maps):
        return [MAPS, kept.pairs.size] + flat(kept.maps())
    return saved_groups(kept)


def woken_window(size, things):
    window = Window(size)
    for thing in things:
        window.put(thing)
    return window


def woken_timed(span, time, dated):
    timed = Timed(span)
    for tick, thing in dated:
        timed.put(tick, thing)
    timed.go_on(time)
    return timed


def woken_maps(size, pairs):
    maps = Maps(size)
    for times, more in pairs:
        maps.put(times, more)
    return maps


def woken_groups(size, most, numbers):
    groups = Groups(size, most)
    place = 0
    while place < len(numbers):
        key = numbers[place]
        first = place + 2
        place = first + numbers[place + 1]
        for thing in numbers[first:place]:
            groups.put(key, thing)
    return groups


def woken(numbers):
    if numbers[0] == WINDOW:
        return woken_window(numbers[1], numbers[2:])
    if numbers[0] == TIMED:
        return woken_timed(numbers[1], numbers[2], paired(numbers[3:]))
    if numbers[0] == MAPS:
        return woken_maps(numbers[1], paired(numbers[2:]))
    return woken_groups(numbers[1], numbers[2], numbers[3:])
