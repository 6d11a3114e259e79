import unittest

from tests.helper import TOP, count, find, last, open_, put, puts, run, whole


class Open(unittest.TestCase):
    def test_answers_0(self):
        self.assertEqual(run(open_(0)), [[0]])
        self.assertEqual(run(open_(1)), [[0]])

    def test_has_no_entries(self):
        self.assertEqual(run(open_(0), count()), [[0], [0]])
        self.assertEqual(run(open_(1), count()), [[0], [0]])

    def test_takes_the_entries_that_were_there(self):
        for unique in (0, 1):
            filled = puts([(1, b"a"), (2, b"b")])
            self.assertEqual(run(*filled, count(), open_(unique), count(), find(9, b"a"))[2:],
                             [[2], [0], [0], [0]])
            self.assertEqual(whole(*filled, open_(unique), put(3, b"c")), [(3, b"c")])

    def test_unique_has_no_key_twice(self):
        self.assertEqual(run(open_(1), put(1, b"a"), put(2, b"a")), [[0], [0], [-4]])

    def test_not_unique_may_have_a_key_twice(self):
        self.assertEqual(run(open_(0), put(1, b"a"), put(2, b"a")), [[0], [0], [0]])

    def test_a_new_index_is_not_unique(self):
        self.assertEqual(run(put(1, b"a"), put(2, b"a")), [[0], [0]])

    def test_the_last_open_tells_whether_it_is_unique(self):
        self.assertEqual(last(open_(1), open_(0), put(1, b"a"), put(2, b"a")), [0])
        self.assertEqual(last(open_(0), open_(1), put(1, b"a"), put(2, b"a")), [-4])

    def test_refuses_a_number_above_1(self):
        for unique in (2, 3, 2 ** 32, 2 ** 32 + 1, 2 ** 63, TOP):
            self.assertEqual(run(open_(unique)), [[-2]])

    def test_refused_all_is_as_it_was(self):
        for unique in (2, TOP):
            self.assertEqual(whole(put(1, b"a"), put(2, b"a"), open_(unique)), [(1, b"a"), (2, b"a")])
            self.assertEqual(last(open_(1), put(1, b"a"), open_(unique), put(2, b"a")), [-4])
            self.assertEqual(last(open_(0), put(1, b"a"), open_(unique), put(2, b"a")), [0])
            self.assertEqual(last(put(1, b"a"), open_(unique), put(2, b"a")), [0])
