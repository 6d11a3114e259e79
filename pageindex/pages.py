"""The pages of an index: their bytes, their sums, and where they end.

An item is a tuple: its key (a tuple of bytes), its row, and above the leaves
how many entries are below it and the sum of the page below. So a leaf's items
are the entries themselves.
"""

from pageindex.byteorder import low_first
from pageindex.crc import crc_of

MOST_PAGE_BYTES = 4096
# Ahead of the items stand the level (1), how many items there are (2) and the sum (4).
CHECKSUM_PLACE = 3
HEAD_BYTES = 7
CUT_EVERY = 32


def common_beginning(one, other):
    """How many bytes two keys have in common at their beginnings."""
    low = 0
    high = min(len(one), len(other))
    # By halves, and not byte by byte: a page may have hundreds of keys with a thousand bytes in common.
    while low < high:
        middle = (low + high + 1) // 2
        if one[low:middle] == other[low:middle]:
            low = middle
        else:
            high = middle - 1
    return low


def bytes_of_item(item, key_before):
    """An item's bytes, behind an item with this key."""
    key = item[0]
    common = common_beginning(key_before, key)
    told = low_first(common, 2) + low_first(len(key) - common, 2) + list(key[common:])
    for number in item[1:]:
        told.extend(low_first(number, 4))
    return told


def is_cut_in_leaf(entry):
    return crc_of(list(entry[0]) + low_first(entry[1], 4)) % CUT_EVERY == 0


def is_cut_above(item, is_first):
    return item[3] % CUT_EVERY == 0 and not is_first


class Page:
    """A page of a level, with so many of the items from a place on, which have these bytes."""

    def __init__(self, level, items, place, how_many, told):
        head = [level] + low_first(how_many, 2)
        behind = place + how_many
        self.level = level
        self.held = items[place:behind]
        # Where a page ends may hang on the item behind it too, but on nothing else.
        self.looked_at = items[place:behind + 1]
        self.checksum = crc_of(head + told)
        self.told = head + low_first(self.checksum, 4) + told

    def entries_below(self):
        """How many entries it has, or has below it."""
        if self.level == 0:
            return len(self.held)
        return sum([item[2] for item in self.held])

    def item_above(self):
        """Its item in the level above."""
        first = self.held[0]
        return (first[0], first[1], self.entries_below(), self.checksum)


def name_of(level, first):
    """What a page is known by: its level, and its first item in a list (of none, in an index without entries)."""
    return (level, tuple(first))


class Layout:
    """Lays entries out on pages, and keeps what may serve again when few of them are others the next time."""

    def __init__(self):
        self.cuts = {}
        self.known = {}

    def is_cut(self, level, item, is_first):
        """Whether a page of this level ends behind the item, however few bytes it has."""
        if level > 0:
            return is_cut_above(item, is_first)
        cut = self.cuts.get(item)
        if cut is None:
            cut = is_cut_in_leaf(item)
            self.cuts[item] = cut
        return cut

    def filled_page(self, level, items, place):
        """The page that begins with the item at this place."""
        told = []
        # The first item has nothing in common with one before it: that's as if an empty key stood there.
        key_before = ()
        behind = place
        while behind < len(items):
            item = items[behind]
            more = bytes_of_item(item, key_before)
            if HEAD_BYTES + len(told) + len(more) > MOST_PAGE_BYTES:
                break
            told.extend(more)
            key_before = item[0]
            behind = behind + 1
            if self.is_cut(level, item, behind == place + 1):
                break
        return Page(level, items, place, behind - place, told)

    def page_at(self, level, items, place):
        """The page that begins at this place: the earlier one, if all that it hangs on is as it was."""
        page = self.known.get(name_of(level, items[place:place + 1]))
        if page is None or page.looked_at != items[place:place + len(page.held) + 1]:
            return self.filled_page(level, items, place)
        return page

    def pages_of_level(self, level, items):
        """The pages that these items fill, in order: one at least, if it's without items."""
        pages = [self.page_at(level, items, 0)]
        place = len(pages[0].held)
        while place < len(items):
            page = self.page_at(level, items, place)
            pages.append(page)
            place = place + len(page.held)
        return pages

    def keep(self, levels):
        """Keeps these pages alone, so that no more are kept than the index has."""
        self.known = {}
        for pages in levels:
            for page in pages:
                self.known[name_of(page.level, page.held[:1])] = page

    def levels_of(self, entries):
        """The levels of these entries, each a list of pages, the leaves first."""
        levels = [self.pages_of_level(0, entries)]
        while len(levels[-1]) > 1:
            items = [page.item_above() for page in levels[-1]]
            levels.append(self.pages_of_level(len(levels), items))
        self.keep(levels)
        return levels
