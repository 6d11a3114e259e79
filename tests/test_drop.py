import unittest

from tests.helper import MOST_ROW, TOP, count, drop, find, last, open_, put, puts, run, whole

ENTRIES = [(1, b""), (1, b"a"), (2, b"a"), (3, b"a"), (1, b"ab"), (1, b"b")]


class Drop(unittest.TestCase):
    def test_it_is_not_there_any_more(self):
        self.assertEqual(run(put(1, b"a"), drop(1, b"a"), count(), find(9, b"a")), [[0], [0], [0], [0]])

    def test_only_that_entry_goes(self):
        for gone in ENTRIES:
            left = [entry for entry in ENTRIES if entry != gone]
            self.assertEqual(last(*puts(ENTRIES), drop(*gone)), [0])
            self.assertEqual(whole(*puts(ENTRIES), drop(*gone)), left)

    def test_twice_is_refused(self):
        self.assertEqual(run(put(1, b"a"), drop(1, b"a"), drop(1, b"a")), [[0], [0], [-3]])

    def test_put_again(self):
        self.assertEqual(run(put(1, b"a"), drop(1, b"a"), put(1, b"a"), count()), [[0], [0], [0], [1]])

    def test_one_that_is_not_there_is_refused(self):
        self.assertEqual(run(drop(0, b"")), [[-3]])
        for absent in ((0, b""), (2, b""), (0, b"a"), (4, b"a"), (2, b"ab"), (1, b"abc"), (1, b"c"), (0, b"\xff")):
            self.assertEqual(last(*puts(ENTRIES), drop(*absent)), [-3])
            self.assertEqual(whole(*puts(ENTRIES), drop(*absent)), ENTRIES)

    def test_from_a_unique_one(self):
        self.assertEqual(run(open_(1), put(5, b"a"), drop(6, b"a"), drop(5, b"a"), drop(5, b"a")),
                         [[0], [0], [-3], [0], [-3]])

    def test_edges_of_keys(self):
        for size in (0, 1000):
            key = b"z" * size
            self.assertEqual(run(put(1, key), drop(1, key), drop(1, key)), [[0], [0], [-3]])
        self.assertEqual(run(drop(1, b"z" * 1001)), [[-2]])
        self.assertEqual(run(drop(1, b"z" * 1100)), [[-2]])

    def test_edges_of_rows(self):
        for row in (0, MOST_ROW):
            self.assertEqual(run(put(row, b"k"), drop(row, b"k"), drop(row, b"k")), [[0], [0], [-3]])
        self.assertEqual(run(drop(MOST_ROW + 1, b"k")), [[-2]])
        self.assertEqual(run(drop(TOP, b"k")), [[-2]])

    def test_what_may_not_be_takes_nothing(self):
        for refused in (drop(MOST_ROW + 1, b"a"), drop(TOP, b"a"), drop(2 ** 32 + 1, b"a"), drop(1, b"a" * 1001)):
            self.assertEqual(last(*puts(ENTRIES), refused), [-2])
            self.assertEqual(whole(*puts(ENTRIES), refused), ENTRIES)
