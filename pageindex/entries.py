"""The entries of an index, in order.

An entry is a tuple: its key (a tuple of bytes), then its row. Tuples are
compared place by place, and one that begins another comes before it: that is
the order of keys, and so the order of entries.
"""

from pageindex.pages import Layout
from pageindex.refusals import FULL, IS_THERE, KEY_IS_THERE, KEY_TWICE, NOT_THERE, TOLD_TWICE

MOST_ENTRIES = 65536
MOST_KEY_BYTES = 1000
MOST_ROW = 4294967295
ABOVE_BYTES = 256

NO_BOUND = 0
AT_KEY = 1


def place_of(entries, entry):
    """How many of the entries stand before this one."""
    low = 0
    high = len(entries)
    while low < high:
        middle = (low + high) // 2
        if entries[middle] < entry:
            low = middle + 1
        else:
            high = middle
    return low


def place_before_key(entries, key):
    """How many of the entries have keys before this one."""
    return place_of(entries, (key, 0))


def place_behind_key(entries, key):
    """How many of the entries have this key or one before it."""
    # No entry has a row above MOST_ROW, so this place is behind all of the key's.
    return place_of(entries, (key, MOST_ROW + 1))


def place_behind_beginning(entries, key):
    """How many of the entries have keys that begin with this one, or that stand before those."""
    # No byte is ABOVE_BYTES, so this place is behind all keys that begin so, bytes of 255 next or not.
    return place_of(entries, (key + (ABOVE_BYTES,), 0))


def rise(entries):
    """Whether each of these entries stands behind the one before it."""
    return all([one < other for one, other in zip(entries, entries[1:])])


def has_key_twice(entries):
    """Whether two of these entries, which are in order, have the same key."""
    return any([one[0] == other[0] for one, other in zip(entries, entries[1:])])


def place_of_low(entries, bound, key):
    """The place of the first entry that a lower bound lets in."""
    if bound == NO_BOUND:
        return 0
    if bound == AT_KEY:
        return place_before_key(entries, key)
    return place_behind_key(entries, key)


def place_of_high(entries, bound, key):
    """The place of the first entry that an upper bound keeps out."""
    if bound == NO_BOUND:
        return len(entries)
    if bound == AT_KEY:
        return place_behind_key(entries, key)
    return place_before_key(entries, key)


class Index:
    """The entries, none twice; if it's unique, no key twice. And its pages, as far as they were asked for."""

    def __init__(self):
        self.unique = False
        self.entries = []
        self.layout = Layout()
        # None until the pages are asked for, and again when an entry comes or goes.
        self.laid_out = None

    def restart(self, unique, entries):
        """From now on the index has these entries, which are in order."""
        self.unique = unique
        self.entries = entries
        self.laid_out = None

    def levels(self):
        """Its levels, each a list of pages, the leaves first."""
        if self.laid_out is None:
            self.laid_out = self.layout.levels_of(self.entries)
        return self.laid_out

    def root(self):
        return self.levels()[-1][0]

    def size(self):
        return len(self.entries)

    def stands_at(self, place, entry):
        return place < len(self.entries) and self.entries[place] == entry

    def with_key(self, key):
        """The entries that have this key, in order."""
        first = place_before_key(self.entries, key)
        behind = place_behind_key(self.entries, key)
        return self.entries[first:behind]

    def between(self, low, low_key, high, high_key):
        """The entries whose keys lie between two bounds, in order."""
        first = place_of_low(self.entries, low, low_key)
        behind = place_of_high(self.entries, high, high_key)
        # Bounds may stand the wrong way round: behind is then before first, and the slice has nothing.
        return self.entries[first:behind]

    def put(self, row, key):
        entry = (key, row)
        place = place_of(self.entries, entry)
        if self.stands_at(place, entry):
            return IS_THERE
        if self.unique and len(self.with_key(key)) > 0:
            return KEY_IS_THERE
        if len(self.entries) >= MOST_ENTRIES:
            return FULL
        self.entries.insert(place, entry)
        self.laid_out = None
        return 0

    def drop(self, row, key):
        entry = (key, row)
        place = place_of(self.entries, entry)
        if not self.stands_at(place, entry):
            return NOT_THERE
        self.entries.pop(place)
        self.laid_out = None
        return 0

    def rank(self, row, key):
        return place_of(self.entries, (key, row))

    def beginning_with(self, key):
        """How many entries have keys that begin so."""
        return place_behind_beginning(self.entries, key) - place_before_key(self.entries, key)

    def build(self, unique, entries):
        """From now on the index has these entries, in whatever order they're told."""
        ordered = sorted(entries)
        # In order, entries rise but where one is told twice.
        if not rise(ordered):
            return TOLD_TWICE
        if len(ordered) > MOST_ENTRIES:
            return FULL
        if unique and has_key_twice(ordered):
            return KEY_TWICE
        self.restart(unique, ordered)
        return len(ordered)
