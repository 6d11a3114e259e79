import itertools
import unittest

from pageindex.entries import Index
from tests.helper import (MOST_ROW, NONE, PAST, TOP, begins, build, count, drop, find, laid_out, last, model_levels,
                          nth, open_, put, puts, range_, rank, run, sum_, told, whole)

ENTRIES = [(5, b""), (0, b"a"), (9, b"a"), (0, b"a\x00"), (1, b"ab"), (0, b"b"), (3, b"\xff")]
UNIQUE = [(5, b""), (9, b"a"), (0, b"a\x00"), (1, b"ab"), (0, b"b"), (3, b"\xff")]


class Build(unittest.TestCase):
    def test_the_index_is_one_of_these_entries(self):
        self.assertEqual(run(build(0, ENTRIES), count()), [[7], [7]])
        self.assertEqual(whole(build(0, ENTRIES)), ENTRIES)
        self.assertEqual(run(build(1, UNIQUE), count()), [[6], [6]])
        self.assertEqual(whole(build(1, UNIQUE)), UNIQUE)

    def test_out_of_order(self):
        for mixed in itertools.islice(itertools.permutations(ENTRIES), 0, None, 7):
            self.assertEqual(whole(build(0, mixed)), ENTRIES)

    def test_what_was_there_is_gone(self):
        filled = puts([(1, b"old"), (5, b"")])
        self.assertEqual(whole(*filled, sum_(), build(0, ENTRIES)), ENTRIES)
        self.assertEqual(laid_out(*filled, sum_(), build(0, ENTRIES)), model_levels(ENTRIES))

    def test_no_entries(self):
        for unique in (0, 1):
            self.assertEqual(run(build(unique, []), count()), [[0], [0]])
            self.assertEqual(whole(put(1, b"a"), build(unique, [])), [])

    def test_one_after_another(self):
        self.assertEqual(whole(build(1, UNIQUE), build(0, ENTRIES[:3]), build(0, ENTRIES)), ENTRIES)

    def test_unique_holds_for_a_put_behind_it(self):
        self.assertEqual(run(build(1, UNIQUE), put(8, b"a"), put(9, b"a"), put(8, b"aa")), [[6], [-4], [-3], [0]])
        self.assertEqual(run(build(0, UNIQUE), put(8, b"a"), put(9, b"a"), put(8, b"aa")), [[6], [0], [-3], [0]])
        self.assertEqual(last(open_(1), build(0, []), put(1, b"a"), put(2, b"a")), [0])
        self.assertEqual(last(open_(0), build(1, []), put(1, b"a"), put(2, b"a")), [-4])

    def test_edges_of_keys_and_rows(self):
        entries = [(0, b""), (MOST_ROW, b""), (0, b"k" * 1000), (MOST_ROW, b"k" * 1000)]
        self.assertEqual(whole(build(0, entries)), entries)

    def test_5000_entries(self):
        entries = [(row, b"") for row in range(5000)]
        self.assertEqual(run(build(0, reversed(entries)), count(), nth(4999)), [[5000], [5000], [0, 4999, 0]])
        self.assertEqual(run(build(0, entries), sum_()), run(build(0, reversed(entries)), sum_()))


class Refused(unittest.TestCase):
    def test_what_may_not_be(self):
        for refused in (build(2, []), build(TOP, ENTRIES), build(0, [(MOST_ROW + 1, b"")]), build(0, [(TOP, b"a")]),
                        build(0, [(1, b"k" * 1001)]), build(1, [(1, b"k" * 1100)]),
                        build(0, ENTRIES + [(MOST_ROW + 1, b"z")]), build(0, [(1, b"k" * 1001)] + ENTRIES)):
            self.assertEqual(run(refused), [[-2]])

    def test_an_entry_told_twice(self):
        for unique in (0, 1):
            self.assertEqual(run(build(unique, [(1, b"a"), (1, b"a")])), [[-3]])
            self.assertEqual(run(build(unique, UNIQUE + UNIQUE[:1])), [[-3]])
            self.assertEqual(run(build(unique, [(0, b""), (1, b"a"), (0, b"")])), [[-3]])

    def test_a_key_twice_in_a_unique_one(self):
        self.assertEqual(run(build(1, [(1, b"a"), (2, b"a")])), [[-4]])
        self.assertEqual(run(build(1, ENTRIES)), [[-4]])
        self.assertEqual(run(build(1, [(2, b"a"), (0, b"b"), (1, b"a")])), [[-4]])
        self.assertEqual(run(build(0, [(1, b"a"), (2, b"a")])), [[2]])

    def test_several_due_at_once(self):
        twice, key_twice = [(1, b"a"), (1, b"a")], [(1, b"b"), (2, b"b")]
        self.assertEqual(run(build(1, twice + key_twice)), [[-3]])
        self.assertEqual(run(build(1, key_twice + twice)), [[-3]])
        self.assertEqual(run(build(2, twice + key_twice)), [[-2]])
        self.assertEqual(run(build(1, twice + key_twice + [(TOP, b"")])), [[-2]])
        self.assertEqual(run(build(1, key_twice + [(0, b"k" * 1001)])), [[-2]])
        self.assertEqual(run(build(0, twice + [(TOP, b"k" * 1001)])), [[-2]])
        self.assertEqual(run(build(0, [(TOP, b"a"), (TOP, b"a")])), [[-2]])

    def test_all_is_as_it_was(self):
        for refused in (build(2, []), build(0, [(TOP, b"")]), build(0, [(1, b"a"), (1, b"a")]),
                        build(1, [(1, b"a"), (2, b"a")])):
            self.assertEqual(whole(build(0, ENTRIES), refused), ENTRIES)
            self.assertEqual(laid_out(build(0, ENTRIES), sum_(), refused), model_levels(ENTRIES))
            self.assertEqual(last(build(0, ENTRIES), refused, put(7, b"a")), [0])
            self.assertEqual(last(build(1, UNIQUE), refused, put(7, b"a")), [-4])


class TooMany(unittest.TestCase):
    """A line is too short for so many, so they're built below the calls."""

    ENTRIES = [((number // 256 % 256, number % 256), number) for number in range(65537)]

    def test_65536_and_one_more(self):
        index = Index()
        self.assertEqual(index.build(False, self.ENTRIES), -5)
        self.assertEqual(index.size(), 0)
        self.assertEqual(index.build(False, self.ENTRIES[:-1]), 65536)
        self.assertEqual(index.put(1, ()), -5)

    def test_which_refusal_is_answered(self):
        index = Index()
        # Number 65536 has the key of number 0.
        self.assertEqual(index.build(True, self.ENTRIES), -5)
        self.assertEqual(index.build(True, self.ENTRIES[1:]), 65536)
        self.assertEqual(index.build(True, self.ENTRIES[1:] + self.ENTRIES[1:2]), -3)
        self.assertEqual(index.build(True, self.ENTRIES[:1] + self.ENTRIES[2:]), -4)
        self.assertEqual(index.size(), 65536)


class Behind(unittest.TestCase):
    """The calls of stage 1 behind a build."""

    def test_each(self):
        answers = run(build(0, reversed(ENTRIES)), count(), find(1, b"a"), range_(0, PAST, NONE, 1, 1, b"a"), nth(1),
                      rank(1, b"a"), begins(b"a"), put(0, b"a"), drop(0, b"a"), drop(0, b"a"), put(4, b"a"), count())
        self.assertEqual(answers[1:], [[7], [2, 0], [4, *told([(1, b"ab")])], [0, *told([(0, b"a")])], [2], [4], [-3],
                                       [0], [-3], [0], [7]])

    def test_open(self):
        self.assertEqual(run(build(1, UNIQUE), open_(0), count(), put(1, b"a"), put(2, b"a"))[1:],
                         [[0], [0], [0], [0]])

    def test_put_and_drop_do_not_reach_the_entries_told(self):
        self.assertEqual(whole(build(0, ENTRIES), drop(*ENTRIES[0]), put(6, b"x"), build(0, ENTRIES)), ENTRIES)
