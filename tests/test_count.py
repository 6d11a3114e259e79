import unittest

from tests.helper import TOP, count, drop, open_, put, run


class Count(unittest.TestCase):
    def test_none_at_the_beginning(self):
        self.assertEqual(run(count()), [[0]])

    def test_goes_with_put_drop_and_open(self):
        answers = run(put(1, b"a"), count(), put(2, b"a"), count(), put(1, b""), count(),
                      drop(1, b"a"), count(), open_(0), count())
        self.assertEqual(answers[1::2], [[1], [2], [3], [2], [0]])

    def test_stays_behind_refusals(self):
        answers = run(open_(1), put(1, b"a"), put(1, b"a"), count(), put(2, b"a"), count(),
                      put(TOP, b"c"), count(), drop(2, b"a"), count(), open_(2), count())
        self.assertEqual(answers[3::2], [[1]] * 5)

    def test_many(self):
        calls = [put(0, [number // 256, number % 256]) for number in range(2000)]
        self.assertEqual(run(*calls, count())[-1], [2000])
