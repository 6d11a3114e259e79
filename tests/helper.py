"""Calls as lists of numbers, and the answers to a line of them, one list each.

Keys may be bytes or lists. The calls' names end with an underscore where
Python has the name itself. Below them, pages by the document's words, made
in the plainest way: the sum bit by bit, a page's bytes anew for each item.
"""

import functools
import itertools
import os.path
import struct

from pageindex.index import answers

TOP = 2 ** 64 - 1
MOST_ROW = 2 ** 32 - 1

NONE, AT, PAST = 0, 1, 2


def call(number, numbers, lists):
    told = [number, len(numbers), *numbers, len(lists)]
    for one in lists:
        told += [len(one), *one]
    return told


def open_(unique):
    return call(1, [unique], [])


def put(row, key):
    return call(2, [row], [key])


def drop(row, key):
    return call(3, [row], [key])


def count():
    return call(4, [], [])


def find(most, key):
    return call(5, [most], [key])


def range_(down=0, lo=NONE, hi=NONE, skip=0, most=TOP, lokey=b"", hikey=b""):
    return call(6, [down, lo, hi, skip, most], [lokey, hikey])


def nth(i):
    return call(7, [i], [])


def rank(row, key):
    return call(8, [row], [key])


def begins(key):
    return call(9, [], [key])


def levels():
    return call(10, [], [])


def pages(level):
    return call(11, [level], [])


def page(level, i):
    return call(12, [level, i], [])


def sum_():
    return call(13, [], [])


def build(unique, entries):
    return call(14, [unique], [[row, *key] for row, key in entries])


def read(data):
    return call(15, [], [data])


def load(unique, told_pages):
    return call(16, [unique], told_pages)


def split_answers(told):
    parts = []
    at = 0
    while at < len(told):
        size = told[at]
        parts.append(told[at + 1:at + 1 + size])
        at += 1 + size
    return parts


def run(*calls):
    """The answers to these calls on a new index."""
    line = [number for one in calls for number in one]
    parts = split_answers(answers(line))
    if len(parts) != len(calls):
        raise AssertionError(f"{len(calls)} calls, {len(parts)} answers")
    return parts


def last(*calls):
    return run(*calls)[-1]


def puts(entries):
    """The calls that put these entries, each a row and a key."""
    return [put(row, key) for row, key in entries]


def lets_in(lo, lokey, hi, hikey, key):
    """Whether a key lies between two bounds, by the document's words."""
    above = lo == NONE or key > lokey or (lo == AT and key == lokey)
    below = hi == NONE or key < hikey or (hi == AT and key == hikey)
    return above and below


def told(entries):
    """Entries, each a row and a key, as range tells them."""
    return [number for row, key in entries for number in [row, len(key), *key]]


def whole(*calls):
    """All that the index holds behind these calls, as a list of (row, key)."""
    answer = last(*calls, range_())
    entries = []
    at = 1
    while at < len(answer):
        row, size = answer[at], answer[at + 1]
        entries.append((row, bytes(answer[at + 2:at + 2 + size])))
        at += 2 + size
    if len(entries) != answer[0]:
        raise AssertionError(f"{answer[0]} counted, {len(entries)} told")
    return entries


def laid_out(*calls):
    """The levels behind these calls, each a list of its pages' bytes, asked for one by one."""
    how_many = last(*calls, levels())[0]
    sizes = run(*calls, *[pages(level) for level in range(how_many)])[len(calls):]
    asked = [page(level, i) for level, (size,) in enumerate(sizes) for i in range(size)]
    told_pages = iter(run(*calls, *asked)[len(calls):])
    return [[bytes(next(told_pages)[1:]) for _ in range(size)] for (size,) in sizes]


POLYNOMIAL = int(f"{0x1EDC6F41:032b}"[::-1], 2)


@functools.lru_cache(maxsize=None)
def crc32c(data):
    crc = 0xFFFFFFFF
    for byte in data:
        crc ^= byte
        for _ in range(8):
            crc = crc >> 1 ^ (POLYNOMIAL if crc & 1 else 0)
    return crc ^ 0xFFFFFFFF


def sealed(level, how_many, body):
    """A page's bytes with a right sum, whatever stands in its body."""
    head = struct.pack("<BH", level, how_many)
    return head + struct.pack("<I", crc32c(head + body)) + body


def item_bytes(common, ending, *numbers):
    return struct.pack("<HH", common, len(ending)) + ending + b"".join(struct.pack("<I", one) for one in numbers)


@functools.lru_cache(maxsize=None)
def in_common(one, other):
    return len(os.path.commonprefix([one, other]))


def body_of(items):
    body = b""
    before = b""
    for row, key, *above in items:
        common = in_common(before, key)
        body += item_bytes(common, key[common:], row, *above)
        before = key
    return body


def page_bytes(level, items):
    """A page's bytes; an item is its row, its key, above the leaves how many are below and the sum."""
    return sealed(level, len(items), body_of(items))


def is_cut(row, key):
    return crc32c(key + struct.pack("<I", row)) % 32 == 0


def ends_before(level, filled, item):
    """Whether a page with these items, one at least, ends ahead of the next."""
    if 7 + len(body_of(filled + [item])) > 4096:
        return True
    if level == 0:
        return is_cut(*filled[-1])
    return len(filled) > 1 and filled[-1][3] % 32 == 0


def model_levels(entries):
    """The levels of an index of these entries, each a list of its pages' bytes."""
    items = sorted(entries, key=lambda entry: (entry[1], entry[0]))
    found = []
    while True:
        level = len(found)
        filled = [[]]
        for item in items:
            if filled[-1] and ends_before(level, filled[-1], item):
                filled.append([])
            filled[-1].append(item)
        found.append([page_bytes(level, one) for one in filled])
        if len(filled) == 1:
            return found
        items = [(one[0][0], one[0][1], sum(item[2] for item in one) if level else len(one),
                  struct.unpack("<I", data[3:7])[0]) for one, data in zip(filled, found[-1])]


def flat(found):
    """The pages of all levels, the leaves first."""
    return [data for level in found for data in level]


def sum_of(data):
    return int.from_bytes(data[3:7], "little")


def rows_that(holds, start=0):
    """The rows, from one on, for which something holds."""
    return (row for row in itertools.count(start) if holds(row))


def cut_entries(how_many, key=b""):
    """Entries each of which is a leaf by itself."""
    return [(row, key) for row in itertools.islice(rows_that(lambda row: is_cut(row, key)), how_many)]


def paired_entries(how_many):
    """Entries in order, so many leaves of two: the second of each two is a cut."""
    entries = []
    for byte in range(256):
        key = bytes([byte])
        seconds = rows_that(lambda row: is_cut(row, key) and not is_cut(row - 1, key), 1)
        for row in itertools.islice(seconds, how_many // 256 + (byte < how_many % 256)):
            entries += [(row - 1, key), (row, key)]
    return entries


def uncut_entries(how_many, key=b""):
    """Entries behind none of which a leaf ends by a cut."""
    return [(row, key) for row in itertools.islice(rows_that(lambda row: not is_cut(row, key)), how_many)]


def uncut(key):
    """An entry with this key that's no cut."""
    return uncut_entries(1, key)[0]
