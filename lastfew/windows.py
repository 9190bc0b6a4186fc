"""The windows: the last so many things, the things of the last so many ticks, and the last so many maps."""

from lastfew.errors import BadWindow, Late
from lastfew.words import word_of

MOST = 1000
MAP_ROUND = 1000003


def keep_to_bounds(number):
    # The number is not in the error's words: Python writes out no number of thousands of figures.
    if number < 1 or number > MOST:
        raise BadWindow("a size, a span and a number of keys are from 1 to 1000")


class Window:
    def __init__(self, size):
        keep_to_bounds(size)
        self.size = size
        self.row = []

    def put(self, thing):
        self.row.append(thing)
        if len(self.row) > self.size:
            return self.row.pop(0)
        return None

    def things(self):
        return list(self.row)

    def word(self, name):
        return word_of(self.row, name)


class Timed:
    def __init__(self, span):
        keep_to_bounds(span)
        self.span = span
        self.tick = 0
        # Pairs of a tick and a thing, as they came, so that those that go stand in front.
        self.dated = []

    def time(self):
        return self.tick

    def go_on(self, time):
        if time < self.tick:
            raise Late("the tick is less than the one that it is")
        self.tick = time
        gone = self.how_many_go()
        going = [thing for tick, thing in self.dated[:gone]]
        # Mostly none go, and then all the others need not be copied.
        if gone > 0:
            self.dated = self.dated[gone:]
        return going

    def how_many_go(self):
        gone = 0
        while gone < len(self.dated) and self.dated[gone][0] <= self.tick - self.span:
            gone += 1
        return gone

    def put(self, time, thing):
        going = self.go_on(time)
        self.dated.append((time, thing))
        return going

    def things(self):
        return [thing for tick, thing in self.dated]

    def word(self, name):
        return word_of(self.things(), name)


class Maps:
    def __init__(self, size):
        self.pairs = Window(size)

    def put(self, times, more):
        self.pairs.put((times % MAP_ROUND, more % MAP_ROUND))

    def whole(self):
        whole_times = 1
        whole_more = 0
        for times, more in self.pairs.things():
            whole_times = times * whole_times % MAP_ROUND
            whole_more = (times * whole_more + more) % MAP_ROUND
        return (whole_times, whole_more)

    def at(self, number):
        whole = self.whole()
        return (whole[0] * number + whole[1]) % MAP_ROUND

    def maps(self):
        return self.pairs.things()
