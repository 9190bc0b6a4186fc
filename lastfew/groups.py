"""The groups: a window for each key, and only so many keys."""

from lastfew.errors import NoKey
from lastfew.windows import Window, keep_to_bounds


class Groups:
    def __init__(self, size, most):
        keep_to_bounds(size)
        keep_to_bounds(most)
        self.size = size
        self.most = most
        # A dict keeps the order in which keys came: the one put for longest ago is kept the first.
        self.by_key = {}

    def put(self, key, thing):
        forgotten = None
        if key in self.by_key:
            window = self.by_key.pop(key)
        else:
            forgotten = self.make_room()
            window = Window(self.size)
        window.put(thing)
        self.by_key[key] = window
        return forgotten

    def make_room(self):
        if len(self.by_key) < self.most:
            return None
        longest_ago = list(self.by_key)[0]
        self.by_key.pop(longest_ago)
        return longest_ago

    def used(self):
        return list(self.by_key)

    def window_of(self, key):
        if key not in self.by_key:
            raise NoKey("no such key")
        return self.by_key[key]

    def things(self, key):
        return self.window_of(key).things()

    def word(self, key, name):
        return self.window_of(key).word(name)
