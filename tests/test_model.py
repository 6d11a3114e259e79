"""Long lines against the plainest model: a set of entries, sorted anew for each answer."""

import random
import unittest

from tests.helper import MOST_ROW, TOP, count, drop, find, lets_in, nth, open_, put, range_, rank, run, told

KEYS = [b"", b"\x00", b"\x00\x00", b"a", b"a\x00", b"a\xff", b"ab", b"b", b"b" * 999, b"b" * 1000,
        b"b" * 999 + b"c", b"\xff", b"\xff\xff"]
LONG_KEYS = [b"b" * 1001, b"\x00" * 1100]
ROWS = [0, 1, 2, MOST_ROW - 1, MOST_ROW]
HIGH_ROWS = [MOST_ROW + 1, TOP]
NUMBERS = [0, 1, 2, 3, 5, 8, 20, 2 ** 32, TOP]


class Model:
    def __init__(self):
        self.unique = 0
        self.entries = set()

    def ordered(self):
        return [(row, key) for key, row in sorted(self.entries)]

    def open(self, unique):
        if unique > 1:
            return [-2]
        self.unique, self.entries = unique, set()
        return [0]

    def put(self, row, key):
        if row > MOST_ROW or len(key) > 1000:
            return [-2]
        if (key, row) in self.entries:
            return [-3]
        if self.unique and any(key == other for other, _ in self.entries):
            return [-4]
        self.entries.add((key, row))
        return [0]

    def drop(self, row, key):
        if row > MOST_ROW or len(key) > 1000:
            return [-2]
        if (key, row) not in self.entries:
            return [-3]
        self.entries.remove((key, row))
        return [0]

    def count(self):
        return [len(self.entries)]

    def find(self, most, key):
        if len(key) > 1000:
            return [-2]
        rows = [row for row, other in self.ordered() if other == key]
        return [len(rows)] + [row for place, row in enumerate(rows) if place < most]

    def range(self, down, lo, hi, skip, most, lokey, hikey):
        if down > 1 or len(lokey) > 1000 or len(hikey) > 1000:
            return [-2]
        inside = [entry for entry in self.ordered() if lets_in(lo, lokey, hi, hikey, entry[1])]
        if down:
            inside.reverse()
        return [len(inside)] + told([entry for place, entry in enumerate(inside) if skip <= place < skip + most])

    def nth(self, i):
        if i >= len(self.entries):
            return [-3]
        return [0] + told([self.ordered()[i]])

    def rank(self, row, key):
        if row > MOST_ROW or len(key) > 1000:
            return [-2]
        return [sum(1 for entry in self.entries if entry < (key, row))]


def key_of(source):
    return source.choice(LONG_KEYS if source.randrange(40) == 0 else KEYS)


def row_of(source):
    return source.choice(HIGH_ROWS if source.randrange(40) == 0 else ROWS)


def range_arguments(source):
    lo, hi = source.randrange(3), source.randrange(3)
    return (source.choice([0, 0, 0, 1, 1, 1, 2, TOP]), lo, hi, source.choice(NUMBERS), source.choice(NUMBERS),
            key_of(source) if lo else b"", key_of(source) if hi else b"")


def step(source, model):
    """A call, and what the model answers to it."""
    kind = source.choice(["put"] * 8 + ["drop"] * 3 + ["count", "find", "range", "range", "nth", "rank", "rank"])
    if source.randrange(60) == 0:
        unique = source.choice([0, 1, 1, 2, TOP])
        return open_(unique), model.open(unique)
    if kind in ("put", "drop", "rank"):
        arguments = (row_of(source), key_of(source))
        return {"put": put, "drop": drop, "rank": rank}[kind](*arguments), getattr(model, kind)(*arguments)
    if kind == "find":
        arguments = (source.choice(NUMBERS), key_of(source))
        return find(*arguments), model.find(*arguments)
    if kind == "range":
        arguments = range_arguments(source)
        return range_(*arguments), model.range(*arguments)
    if kind == "nth":
        i = source.choice(NUMBERS)
        return nth(i), model.nth(i)
    return count(), model.count()


class AgainstTheModel(unittest.TestCase):
    def test_lines(self):
        for seed in range(150):
            source = random.Random(seed)
            model = Model()
            steps = [step(source, model) for _ in range(120)]
            given = run(*[call for call, _ in steps])
            self.assertEqual(given, [expected for _, expected in steps], f"seed {seed}")
