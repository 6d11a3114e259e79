import unittest

from tests.helper import MOST_ROW, TOP, last, open_, put, puts, rank, run, whole

ENTRIES = [(3, b""), (1, b"a"), (4, b"a"), (1, b"a\x00"), (7, b"b"), (MOST_ROW, b"b")]


class Rank(unittest.TestCase):
    def test_of_those_that_are_there(self):
        for place, entry in enumerate(ENTRIES):
            self.assertEqual(last(*puts(reversed(ENTRIES)), rank(*entry)), [place])

    def test_of_those_that_are_not(self):
        for row, key, place in ((0, b"", 0), (4, b"", 1), (MOST_ROW, b"", 1), (0, b"\x00", 1), (0, b"a", 1),
                                (2, b"a", 2), (5, b"a", 3), (MOST_ROW, b"a", 3), (0, b"a\x00", 3),
                                (2, b"a\x00", 4), (0, b"ab", 4), (0, b"b", 4), (8, b"b", 5),
                                (0, b"b\x00", 6), (0, b"c", 6), (MOST_ROW, b"\xff" * 1000, 6)):
            self.assertEqual(last(*puts(ENTRIES), rank(row, key)), [place])

    def test_of_an_empty_index(self):
        self.assertEqual(run(rank(0, b""), rank(MOST_ROW, b"z")), [[0], [0]])

    def test_in_a_unique_one(self):
        self.assertEqual(run(open_(1), put(5, b"a"), rank(4, b"a"), rank(5, b"a"), rank(6, b"a"))[2:],
                         [[0], [0], [1]])

    def test_edges_of_rows(self):
        for row in (MOST_ROW + 1, 2 ** 33, TOP):
            self.assertEqual(last(*puts(ENTRIES), rank(row, b"a")), [-2])

    def test_edges_of_keys(self):
        self.assertEqual(last(*puts(ENTRIES), rank(0, b"a" * 1000)), [4])
        for size in (1001, 1100):
            self.assertEqual(last(*puts(ENTRIES), rank(0, b"a" * size)), [-2])
        self.assertEqual(run(rank(TOP, b"a" * 1001)), [[-2]])

    def test_all_is_as_it_was(self):
        self.assertEqual(whole(*puts(ENTRIES), rank(2, b"a"), rank(TOP, b"a")), ENTRIES)
