import unittest

from tests.helper import MOST_ROW, TOP, drop, last, nth, open_, put, puts, run, told, whole

ENTRIES = [(MOST_ROW, b""), (0, b"a"), (2, b"a"), (1, b"ab"), (0, b"b" * 1000)]


class Nth(unittest.TestCase):
    def test_each_in_order(self):
        for i, entry in enumerate(ENTRIES):
            self.assertEqual(last(*puts(reversed(ENTRIES)), nth(i)), [0] + told([entry]))

    def test_first_and_last_and_past(self):
        self.assertEqual(run(put(4, b"xy"), nth(0), nth(1)), [[0], [0, 4, 2, *b"xy"], [-3]])
        self.assertEqual(last(*puts(ENTRIES), nth(4))[:3], [0, 0, 1000])

    def test_past_the_last(self):
        for i in (5, 6, 2 ** 32, 2 ** 63, TOP):
            self.assertEqual(last(*puts(ENTRIES), nth(i)), [-3])

    def test_of_an_empty_index(self):
        self.assertEqual(run(nth(0), nth(TOP)), [[-3], [-3]])
        self.assertEqual(last(put(1, b"a"), open_(1), nth(0)), [-3])

    def test_those_behind_a_dropped_one_move_up(self):
        self.assertEqual(run(*puts(ENTRIES), drop(0, b"a"), nth(1), nth(3), nth(4))[6:],
                         [[0] + told([ENTRIES[2]]), [0] + told([ENTRIES[4]]), [-3]])

    def test_all_is_as_it_was(self):
        self.assertEqual(whole(*puts(ENTRIES), nth(1), nth(5)), ENTRIES)
