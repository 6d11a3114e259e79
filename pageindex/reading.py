"""A page's bytes, read: its level and its items."""

from pageindex.byteorder import number_of
from pageindex.crc import crc_of
from pageindex.entries import MOST_KEY_BYTES, rise
from pageindex.pages import CHECKSUM_PLACE, HEAD_BYTES, MOST_PAGE_BYTES, common_beginning


class NoPage(Exception):
    """These bytes are no page."""


class PageReader:
    """Goes through a page's bytes from its first on."""

    def __init__(self, told):
        self.told = told
        self.place = 0

    def is_through(self):
        return self.place == len(self.told)

    def take_bytes(self, size):
        first = self.place
        self.place = first + size
        if self.place > len(self.told):
            raise NoPage()
        return self.told[first:self.place]

    def take_number(self, size):
        return number_of(self.take_bytes(size))

    def take_key(self, key_before):
        """A key, which stands behind another in the page (behind an empty one, if it's the first)."""
        common = self.take_number(2)
        more = self.take_number(2)
        key = key_before[:common] + tuple(self.take_bytes(more))
        # This also finds a common beginning that's longer than the key before.
        if common_beginning(key_before, key) != common:
            raise NoPage()
        if len(key) > MOST_KEY_BYTES:
            raise NoPage()
        return key

    def take_item(self, level, key_before):
        key = self.take_key(key_before)
        row = self.take_number(4)
        if level == 0:
            return (key, row)
        below = self.take_number(4)
        checksum = self.take_number(4)
        return (key, row, below, checksum)


def items_of(reader, level, how_many):
    """So many items, as they stand one behind another."""
    items = []
    key_before = ()
    while len(items) < how_many:
        item = reader.take_item(level, key_before)
        items.append(item)
        key_before = item[0]
    return items


def page_of(told):
    """The level and the items that these bytes tell; NoPage is raised if they're no page."""
    if len(told) > MOST_PAGE_BYTES:
        raise NoPage()
    reader = PageReader(told)
    level = reader.take_number(1)
    how_many = reader.take_number(2)
    checksum = reader.take_number(4)
    if checksum != crc_of(told[:CHECKSUM_PLACE] + told[HEAD_BYTES:]):
        raise NoPage()
    items = items_of(reader, level, how_many)
    if not (reader.is_through() and rise([item[:2] for item in items])):
        raise NoPage()
    return (level, items)
