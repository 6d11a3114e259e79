import itertools
import unittest

from pageindex.entries import Index
from tests.helper import MOST_ROW, TOP, count, drop, find, last, nth, open_, put, puts, run, whole


class Put(unittest.TestCase):
    def test_it_is_there_now(self):
        self.assertEqual(run(put(7, b"key"), count(), find(1, b"key"), nth(0)),
                         [[0], [1], [1, 7], [0, 7, 3, *b"key"]])

    def test_the_order_does_not_hang_on_how_it_was_filled(self):
        entries = [(5, b""), (0, b"a"), (9, b"a"), (0, b"a\x00"), (1, b"ab"), (0, b"b"), (3, b"\xff")]
        for shuffled in itertools.permutations(entries):
            self.assertEqual(whole(*puts(shuffled)), entries)

    def test_bytes_are_in_order_as_numbers(self):
        entries = [(0, bytes([byte])) for byte in range(256)]
        self.assertEqual(whole(*puts(reversed(entries))), entries)

    def test_a_key_that_begins_another_comes_before_it(self):
        entries = [(MOST_ROW, b"ab"), (0, b"ab\x00"), (0, b"ab\x00\x00"), (0, b"ac")]
        self.assertEqual(whole(*puts(reversed(entries))), entries)

    def test_keys_that_differ_in_their_last_byte(self):
        stem = b"k" * 999
        entries = [(1, stem), (1, stem + b"\x00"), (1, stem + b"\x01"), (0, stem + b"\xff")]
        self.assertEqual(whole(*puts(reversed(entries))), entries)

    def test_rows_are_in_order_as_numbers(self):
        rows = [0, 1, 2, 9, 10, 255, 256, 65535, 65536, 2 ** 31, MOST_ROW]
        self.assertEqual(whole(*puts([(row, b"k") for row in reversed(rows)])), [(row, b"k") for row in rows])

    def test_an_entry_that_is_there_is_refused(self):
        self.assertEqual(run(put(1, b"a"), put(1, b"a"), count()), [[0], [-3], [1]])
        self.assertEqual(last(open_(1), put(1, b"a"), put(1, b"a")), [-3])
        self.assertEqual(last(put(0, b""), put(0, b"")), [-3])

    def test_same_row_with_other_keys(self):
        self.assertEqual(run(open_(1), put(1, b"a"), put(1, b"b"), put(1, b""), put(1, b"aa")), [[0]] * 5)

    def test_a_unique_one_refuses_a_key_that_is_there(self):
        for rows in ((5, 4), (5, 6), (0, MOST_ROW), (MOST_ROW, 0)):
            self.assertEqual(run(open_(1), put(rows[0], b"k"), put(rows[1], b"k"), count()), [[0], [0], [-4], [1]])

    def test_a_unique_one_takes_a_key_that_is_no_longer_there(self):
        self.assertEqual(last(open_(1), put(1, b"k"), drop(1, b"k"), put(2, b"k")), [0])

    def test_a_unique_one_takes_keys_beside_those_that_are_there(self):
        self.assertEqual(run(open_(1), put(3, b"ab"), put(3, b"a"), put(3, b"abc"), put(3, b"aa"), put(3, b"ac")),
                         [[0]] * 6)

    def test_edges_of_keys(self):
        for size in (0, 1, 999, 1000):
            key = b"\xff" * size
            self.assertEqual(run(put(1, key), find(1, key)), [[0], [1, 1]])
        for size in (1001, 1100):
            self.assertEqual(run(put(1, b"\xff" * size), count()), [[-2], [0]])

    def test_edges_of_rows(self):
        for row in (0, 1, MOST_ROW - 1, MOST_ROW):
            self.assertEqual(run(put(row, b"k"), find(1, b"k")), [[0], [1, row]])
        for row in (MOST_ROW + 1, MOST_ROW + 2, 2 ** 33, TOP):
            self.assertEqual(run(put(row, b"k"), count()), [[-2], [0]])

    def test_what_may_not_be_is_looked_at_first(self):
        self.assertEqual(last(open_(1), put(1, b"k"), put(MOST_ROW + 1, b"k")), [-2])
        self.assertEqual(last(put(TOP, b"k" * 1001)), [-2])

    def test_refused_all_is_as_it_was(self):
        filled = [open_(1), *puts([(2, b"b"), (1, b"a"), (3, b"c")])]
        for refused in (put(1, b"a"), put(9, b"b"), put(TOP, b"d"), put(1, b"d" * 1001)):
            self.assertLess(last(*filled, refused)[0], 0)
            self.assertEqual(len(last(*filled, refused)), 1)
            self.assertEqual(whole(*filled, refused), [(1, b"a"), (2, b"b"), (3, b"c")])


class PutIntoAFullIndex(unittest.TestCase):
    """A line is too short to fill an index, so the entries are put below the calls."""

    def filled(self, unique, how_many):
        index = Index()
        index.restart(unique, [])
        for number in range(how_many):
            self.assertEqual(index.put(number, (number // 256, number % 256)), 0)
        return index

    def test_the_last_that_goes_in_and_the_first_that_does_not(self):
        index = self.filled(False, 65535)
        self.assertEqual(index.put(7, (1,)), 0)
        self.assertEqual(index.size(), 65536)
        before = list(index.entries)
        self.assertEqual(index.put(8, (1,)), -5)
        self.assertEqual(index.entries, before)

    def test_which_refusal_is_answered(self):
        index = self.filled(True, 65536)
        self.assertEqual(index.put(3, (0, 3)), -3)
        self.assertEqual(index.put(4, (0, 3)), -4)
        self.assertEqual(index.put(4, (0, 3, 0)), -5)
        self.assertEqual(index.size(), 65536)

    def test_there_is_room_behind_a_drop(self):
        index = self.filled(False, 65536)
        self.assertEqual(index.drop(5, (0, 5)), 0)
        self.assertEqual(index.put(5, (9,)), 0)
        self.assertEqual(index.put(6, (9,)), -5)
