import unittest

from tests.helper import MOST_ROW, TOP, find, last, open_, put, puts, run, whole

ENTRIES = [(8, b""), (0, b"a"), (4, b"a"), (7, b"a"), (MOST_ROW, b"a"), (2, b"a\x00"), (5, b"aa"), (1, b"b")]


class Find(unittest.TestCase):
    def test_how_many_then_the_rows(self):
        self.assertEqual(last(*puts(reversed(ENTRIES)), find(9, b"a")), [4, 0, 4, 7, MOST_ROW])

    def test_most_at_most(self):
        rows = [0, 4, 7, MOST_ROW]
        for most in (0, 1, 2, 3, 4, 5, 2 ** 32, 2 ** 63, TOP):
            self.assertEqual(last(*puts(ENTRIES), find(most, b"a")), [4] + rows[:min(most, 4)])

    def test_keys_beside_are_not_found(self):
        for key, rows in ((b"", [8]), (b"a\x00", [2]), (b"aa", [5]), (b"b", [1])):
            self.assertEqual(last(*puts(ENTRIES), find(TOP, key)), [1] + rows)

    def test_a_key_that_is_not_there(self):
        for key in (b"\x00", b"`", b"a\x00\x00", b"ab", b"c", b"\xff"):
            self.assertEqual(last(*puts(ENTRIES), find(TOP, key)), [0])
        self.assertEqual(run(find(TOP, b"")), [[0]])

    def test_in_a_unique_one(self):
        self.assertEqual(run(open_(1), put(3, b"a"), put(2, b"a"), find(9, b"a")), [[0], [0], [-4], [1, 3]])

    def test_edges_of_keys(self):
        for size in (0, 1000):
            key = b"z" * size
            self.assertEqual(last(put(6, key), find(1, key)), [1, 6])
        for most in (0, 1, TOP):
            self.assertEqual(run(find(most, b"z" * 1001)), [[-2]])
            self.assertEqual(run(find(most, b"z" * 1100)), [[-2]])

    def test_a_key_of_1001_bytes_does_not_find_its_beginning(self):
        self.assertEqual(last(put(6, b"z" * 1000), find(1, b"z" * 1001)), [-2])

    def test_all_is_as_it_was(self):
        self.assertEqual(whole(*puts(ENTRIES), find(2, b"a"), find(2, b"a" * 1001)), ENTRIES)
