"""Long lines against the plainest model: a set of entries, sorted anew for each answer."""

import random
import struct
import unittest

from tests.helper import (MOST_ROW, TOP, begins, build, count, crc32c, drop, find, flat, in_common, laid_out, lets_in,
                          levels, load, model_levels, nth, open_, page, page_bytes, pages, put, range_, rank, read, run,
                          sum_, sum_of, told)

KEYS = [b"", b"\x00", b"\x00\x00", b"a", b"a\x00", b"a\xff", b"ab", b"b", b"b" * 999, b"b" * 1000,
        b"b" * 999 + b"c", b"\xff", b"\xff\xff"]
LONG_KEYS = [b"b" * 1001, b"\x00" * 1100]
ROWS = [0, 1, 2, *range(250, 262), MOST_ROW - 1, MOST_ROW]
HIGH_ROWS = [MOST_ROW + 1, TOP]
NUMBERS = [0, 1, 2, 3, 5, 8, 20, 2 ** 32, TOP]


def model_item(data, level, before):
    """An item, read from the beginning of these bytes, and the bytes behind it; an error if there's none."""
    common, more = struct.unpack("<HH", data[:4])
    key, behind = before[:common] + data[4:4 + more], 4 + more + (4 if level == 0 else 12)
    if len(data) < behind or len(key) > 1000 or in_common(before, key) != common:
        raise ValueError
    return (key, *struct.unpack("<I" if level == 0 else "<III", data[4 + more:behind])), data[behind:]


def model_read(data):
    """The level and the items of a page, or None."""
    if not 7 <= len(data) <= 4096 or crc32c(data[:3] + data[7:]) != sum_of(data):
        return None
    level, how_many = struct.unpack("<BH", data[:3])
    items, rest = [], data[7:]
    try:
        while len(items) < how_many:
            item, rest = model_item(rest, level, items[-1][0] if items else b"")
            if items and item[:2] <= items[-1][:2]:
                return None
            items.append(item)
    except (struct.error, ValueError):
        return None
    return None if rest else (level, items)


def model_leaves(unique, told_pages):
    """The entries of the leaves, as row and key; or the number of the first that's wrong."""
    entries = []
    for number, data in enumerate(told_pages):
        found = model_read(data)
        if found is None:
            return number
        if found[0] > 0:
            break
        for key, row in found[1]:
            before = entries[-1:]
            if before and (key, row) <= before[0] or unique and before and key == before[0][0]:
                return number
            entries.append((key, row))
    return [(row, key) for key, row in entries]


class Model:
    def __init__(self):
        self.unique = 0
        self.entries = set()

    def ordered(self):
        return [(row, key) for key, row in sorted(self.entries)]

    def open(self, unique):
        if unique > 1:
            return [-2]
        self.unique, self.entries = unique, set()
        return [0]

    def put(self, row, key):
        if row > MOST_ROW or len(key) > 1000:
            return [-2]
        if (key, row) in self.entries:
            return [-3]
        if self.unique and any(key == other for other, _ in self.entries):
            return [-4]
        self.entries.add((key, row))
        return [0]

    def drop(self, row, key):
        if row > MOST_ROW or len(key) > 1000:
            return [-2]
        if (key, row) not in self.entries:
            return [-3]
        self.entries.remove((key, row))
        return [0]

    def count(self):
        return [len(self.entries)]

    def find(self, most, key):
        if len(key) > 1000:
            return [-2]
        rows = [row for row, other in self.ordered() if other == key]
        return [len(rows)] + [row for place, row in enumerate(rows) if place < most]

    def range(self, down, lo, hi, skip, most, lokey, hikey):
        if down > 1 or len(lokey) > 1000 or len(hikey) > 1000:
            return [-2]
        inside = [entry for entry in self.ordered() if lets_in(lo, lokey, hi, hikey, entry[1])]
        if down:
            inside.reverse()
        return [len(inside)] + told([entry for place, entry in enumerate(inside) if skip <= place < skip + most])

    def nth(self, i):
        if i >= len(self.entries):
            return [-3]
        return [0] + told([self.ordered()[i]])

    def rank(self, row, key):
        if row > MOST_ROW or len(key) > 1000:
            return [-2]
        return [sum(1 for entry in self.entries if entry < (key, row))]

    def begins(self, key):
        if len(key) > 1000:
            return [-2]
        return [sum(1 for other, _ in self.entries if other.startswith(key))]

    def levels(self):
        return [len(model_levels(self.ordered()))]

    def pages(self, level):
        found = model_levels(self.ordered())
        return [len(found[level])] if level < len(found) else [-3]

    def page(self, level, i):
        found = model_levels(self.ordered())
        if level >= len(found) or i >= len(found[level]):
            return [-3]
        return [len(found[level][i]), *found[level][i]]

    def sum(self):
        return [sum_of(model_levels(self.ordered())[-1][0])]

    def build(self, unique, entries):
        if unique > 1 or any(row > MOST_ROW or len(key) > 1000 for row, key in entries):
            return [-2]
        if len(set(entries)) < len(entries):
            return [-3]
        if unique and len({key for _, key in entries}) < len(entries):
            return [-4]
        self.unique, self.entries = unique, {(key, row) for row, key in entries}
        return [len(entries)]

    def read(self, data):
        found = model_read(data)
        if found is None:
            return [-6]
        items = [number for key, row, *above in found[1] for number in [row, len(key), *key, *above]]
        return [len(found[1]), found[0], *items]

    def load(self, unique, told_pages):
        if unique > 1:
            return [-2]
        entries = model_leaves(unique, told_pages)
        if isinstance(entries, int):
            return [-100 - entries]
        right = flat(model_levels(entries))
        for number in range(max(len(told_pages), len(right))):
            if told_pages[number:number + 1] != right[number:number + 1]:
                return [-100 - number]
        self.unique, self.entries = unique, {(key, row) for row, key in entries}
        return [len(entries)]


def key_of(source):
    return source.choice(LONG_KEYS if source.randrange(40) == 0 else KEYS)


def row_of(source):
    return source.choice(HIGH_ROWS if source.randrange(40) == 0 else ROWS)


def range_arguments(source):
    lo, hi = source.randrange(3), source.randrange(3)
    return (source.choice([0, 0, 0, 1, 1, 1, 2, TOP]), lo, hi, source.choice(NUMBERS), source.choice(NUMBERS),
            key_of(source) if lo else b"", key_of(source) if hi else b"")


def entries_of(source, most):
    """Some entries, in any order; seldom one twice, or one that may not be."""
    entries = [(source.choice(ROWS), source.choice(KEYS)) for _ in range(source.randrange(most))]
    if source.randrange(6):
        entries = list(dict.fromkeys(entries))
    if source.randrange(6) == 0:
        entries = list({key: (row, key) for row, key in entries}.values())
    if source.randrange(12) == 0:
        entries.append((row_of(source), key_of(source)))
    return entries


def mixed_up(source, told_pages):
    """Pages with something changed about, left out, told again, broken or laid out otherwise."""
    mixed = list(told_pages)
    place, other = source.randrange(len(mixed)), source.randrange(len(mixed))
    kind = source.randrange(7)
    if kind == 0:
        mixed[place], mixed[other] = mixed[other], mixed[place]
    elif kind == 1:
        del mixed[place]
    elif kind == 2:
        mixed.insert(place, mixed[other])
    elif kind == 3:
        mixed[place] = broken(source, mixed[place])
    elif kind == 4:
        level, items = model_read(mixed[place])
        cut = source.randrange(len(items) + 1)
        items = [(row, key, *above) for key, row, *above in items]
        mixed[place:place + 1] = [page_bytes(level, items[:cut]), page_bytes(level, items[cut:])]
    elif kind == 5:
        mixed.append(source.choice([b"", page_bytes(0, []), page_bytes(1, []), mixed[place]]))
    return mixed


def broken(source, data):
    """A page that has lost a byte, or has one more or another; some with a right sum all the same."""
    place = source.randrange(len(data))
    data = data[:place] + source.choice([b"", b"\x00", b"\x01", data[place:place + 1] * 2]) + data[place + 1:]
    if source.randrange(2) or len(data) < 7:
        return data
    return data[:3] + struct.pack("<I", crc32c(data[:3] + data[7:])) + data[7:]


def page_step(source, model):
    """A call of stage 2, and what the model answers to it."""
    kind = source.choice(["begins", "levels", "pages", "page", "page", "sum", "sum", "build", "read", "load", "load"])
    if kind in ("levels", "sum"):
        return {"levels": levels, "sum": sum_}[kind](), getattr(model, kind)()
    if kind in ("pages", "page"):
        arguments = [source.choice([0, 0, 1, 1, 2, TOP]), source.choice(NUMBERS)][:1 + (kind == "page")]
        return {"pages": pages, "page": page}[kind](*arguments), getattr(model, kind)(*arguments)
    if kind == "begins":
        key = key_of(source)[:source.choice([0, 1, 2, 1100])]
        return begins(key), model.begins(key)
    unique = source.choice([0] * 6 + [1] * 5 + [2, TOP])
    if kind == "build":
        entries = entries_of(source, 12)
        return build(unique, entries), model.build(unique, entries)
    told_pages = flat(model_levels(set(entries_of(source, 80)) & {(row, key) for row in ROWS for key in KEYS}))
    if kind == "read":
        data = source.choice(mixed_up(source, told_pages) or [b""])
        return read(data), model.read(data)
    told_pages = mixed_up(source, told_pages)
    return load(unique, told_pages), model.load(unique, told_pages)


def step(source, model):
    """A call, and what the model answers to it."""
    kind = source.choice(["put"] * 8 + ["drop"] * 3 + ["count", "find", "range", "range", "nth", "rank", "rank"])
    if source.randrange(60) == 0:
        unique = source.choice([0, 1, 1, 2, TOP])
        return open_(unique), model.open(unique)
    if kind in ("put", "drop", "rank"):
        arguments = (row_of(source), key_of(source))
        return {"put": put, "drop": drop, "rank": rank}[kind](*arguments), getattr(model, kind)(*arguments)
    if kind == "find":
        arguments = (source.choice(NUMBERS), key_of(source))
        return find(*arguments), model.find(*arguments)
    if kind == "range":
        arguments = range_arguments(source)
        return range_(*arguments), model.range(*arguments)
    if kind == "nth":
        i = source.choice(NUMBERS)
        return nth(i), model.nth(i)
    return count(), model.count()


class AgainstTheModel(unittest.TestCase):
    def test_lines(self):
        for seed in range(150):
            source = random.Random(seed)
            model = Model()
            steps = [step(source, model) for _ in range(120)]
            given = run(*[call for call, _ in steps])
            self.assertEqual(given, [expected for _, expected in steps], f"seed {seed}")

    def test_lines_with_pages(self):
        for seed in range(60):
            source = random.Random(seed)
            model = Model()
            steps = [source.choice([step, page_step])(source, model) for _ in range(60)]
            calls = [call for call, _ in steps]
            given = run(*calls)
            for place, (_, expected) in enumerate(steps):
                self.assertEqual(given[place], expected, f"seed {seed}, call {place}")
            self.assertEqual(laid_out(*calls), model_levels(model.ordered()), f"seed {seed}")
