"""The words: what some things, in the order in which they came, come to."""

from lastfew.errors import NoWord

MARK_STEP = 31
MARK_ROUND = 1000003


def many(things):
    return len(things)


def total(things):
    return sum(things)


def unlike(things):
    return len(set(things))


def place_behind(ordered, thing):
    # Behind those that are alike: a pair of two alike things is not wrong.
    low = 0
    high = len(ordered)
    while low < high:
        half = (low + high) // 2
        if ordered[half] > thing:
            high = half
        else:
            low = half + 1
    return low


def wrong(things):
    # A timed window may have any number of things, so no walk over all pairs.
    pairs = 0
    ordered = []
    for thing in things:
        place = place_behind(ordered, thing)
        pairs += len(ordered) - place
        ordered.insert(place, thing)
    return pairs


def rising(things):
    longest = 0
    run = 0
    for place, thing in enumerate(things):
        if place > 0 and thing < things[place - 1]:
            run = 0
        run += 1
        longest = max(longest, run)
    return longest


def mark(things):
    so_far = 0
    for thing in things:
        so_far = (so_far * MARK_STEP + thing) % MARK_ROUND
    return so_far


def first(things):
    return things[0]


def last(things):
    return things[-1]


def least(things):
    return min(things)


def greatest(things):
    return max(things)


def middle(things):
    return sorted(things)[(len(things) - 1) // 2]


def commonest(things):
    times = {}
    for thing in things:
        times[thing] = times.get(thing, 0) + 1
    most = max(times.values())
    return min([thing for thing in times if times[thing] == most])


# Two tables, since only the words that pick a thing have nothing to tell of no things.
NUMBER_WORDS = {
    "many": many,
    "sum": total,
    "unlike": unlike,
    "wrong": wrong,
    "rising": rising,
    "mark": mark,
}

THING_WORDS = {
    "first": first,
    "last": last,
    "least": least,
    "greatest": greatest,
    "middle": middle,
    "commonest": commonest,
}


def word_of(things, name):
    if name in NUMBER_WORDS:
        return NUMBER_WORDS[name](things)
    if name not in THING_WORDS:
        raise NoWord(f"no such word: {name!r}")
    if len(things) == 0:
        return None
    return THING_WORDS[name](things)
