import contextlib
import io
import unittest

from pageindex.index import answers
from tests.helper import (TOP, begins, build, count, drop, find, flat, levels, load, model_levels, nth, open_, page,
                          page_bytes, paired_entries, pages, put, range_, rank, read, sum_, sum_of)


class Form(unittest.TestCase):
    """The lists of numbers as they stand, without the helper."""

    def test_one_call(self):
        self.assertEqual(answers([4, 0, 0]), [1, 0])

    def test_calls_one_behind_another(self):
        calls = [1, 1, 0, 0,
                 2, 1, 5, 1, 2, 97, 98,
                 2, 1, 3, 1, 2, 97, 98,
                 2, 1, 9, 1, 0,
                 4, 0, 0,
                 5, 1, 1, 1, 2, 97, 98,
                 6, 5, 0, 1, 0, 0, 9, 2, 2, 97, 98, 0,
                 6, 5, 1, 0, 2, 0, 9, 2, 0, 1, 97,
                 7, 1, 1, 0,
                 8, 1, 4, 1, 2, 97, 98,
                 3, 1, 5, 1, 2, 97, 98,
                 3, 1, 5, 1, 2, 97, 98,
                 7, 1, 2, 0]
        self.assertEqual(answers(calls), [1, 0,
                                          1, 0,
                                          1, 0,
                                          1, 0,
                                          1, 3,
                                          2, 2, 3,
                                          9, 2, 3, 2, 97, 98, 5, 2, 97, 98,
                                          3, 1, 9, 0,
                                          5, 0, 3, 2, 97, 98,
                                          1, 2,
                                          1, 0,
                                          1, -3,
                                          1, -3])

    def test_calls_on_pages(self):
        entries = [(5, b"ab"), (3, b"ac")]
        leaf = page_bytes(0, entries)
        self.assertEqual(len(leaf), 7 + 10 + 9)
        calls = [14, 1, 0, 2, 3, 3, 97, 99, 3, 5, 97, 98,
                 9, 0, 1, 1, 97,
                 10, 0, 0,
                 11, 1, 0, 0,
                 11, 1, 1, 0,
                 12, 2, 0, 0, 0,
                 12, 2, 0, 1, 0,
                 13, 0, 0,
                 14, 1, 1, 1, 1, 7,
                 15, 0, 1, 26, *leaf,
                 15, 0, 1, 0,
                 16, 1, 0, 1, 26, *leaf,
                 16, 1, 0, 0,
                 4, 0, 0]
        self.assertEqual(answers(calls), [1, 2,
                                          1, 2,
                                          1, 1,
                                          1, 1,
                                          1, -3,
                                          27, 26, *leaf,
                                          1, -3,
                                          1, sum_of(leaf),
                                          1, 1,
                                          10, 2, 0, 5, 2, 97, 98, 3, 2, 97, 99,
                                          1, -6,
                                          1, 2,
                                          1, -100,
                                          1, 2])

    def test_a_page_above_the_leaves(self):
        root = page_bytes(1, [(5, b"a", 3, 77)])
        self.assertEqual(answers([15, 0, 1, 24, *root]), [7, 1, 1, 5, 1, 97, 3, 77])

    def test_refusals_stand_alone(self):
        self.assertEqual(answers([1, 1, 2, 0, 7, 1, 0, 0, 5, 1, 0, 1, 1001] + [0] * 1001), [1, -2, 1, -3, 1, -2])

    def test_whole_numbers_in_a_list(self):
        given = answers([1, 1, 1, 0, 2, 1, 5, 1, 1, 7, 7, 1, 0, 0, 6, 5, 0, 0, 0, 0, 1, 2, 0, 0])
        self.assertIs(type(given), list)
        self.assertEqual({type(number) for number in given}, {int})

    def test_a_key_may_look_like_calls(self):
        self.assertEqual(answers([2, 1, 4, 1, 3, 4, 0, 0, 4, 0, 0]), [1, 0, 1, 1])


class Kept(unittest.TestCase):
    def line(self):
        calls = [open_(1), put(1, b"b"), put(2, b"a"), put(3, b"a"), put(TOP, b"c"), find(TOP, b"a"),
                 range_(1, 1, 1, 0, 5, b"a", b"b"), nth(1), rank(0, b"b"), drop(1, b"b"), drop(1, b"b"), count()]
        entries = paired_entries(3)
        told_pages = flat(model_levels(entries))
        calls += [begins(b"a"), levels(), pages(0), page(0, 0), sum_(), build(0, reversed(entries)), build(1, entries),
                  build(0, entries[:2] + entries[:2]), sum_(), put(1, b"zz"), page(0, 2), page(1, 0), pages(5),
                  *[read(data) for data in told_pages], read(b""), load(0, told_pages), load(1, told_pages),
                  load(0, told_pages[1:]), load(0, []), drop(*entries[0]), sum_(), page(1, 0)]
        return [number for call in calls for number in call]

    def test_what_is_handed_in_is_as_it_was(self):
        line = self.line()
        answers(line)
        self.assertEqual(line, self.line())

    def test_a_second_time_answers_as_the_first(self):
        line = self.line()
        first = answers(line)
        self.assertEqual(answers(line), first)
        answers([1, 1, 1, 0, 2, 1, 1, 1, 1, 98])
        self.assertEqual(answers(line), first)
        self.assertEqual(answers([4, 0, 0]), [1, 0])
        self.assertEqual(answers([13, 0, 0]), [1, 0x6064A37A])
        self.assertEqual(answers([2, 1, 1, 1, 1, 98, 2, 1, 2, 1, 1, 98]), [1, 0, 1, 0])

    def test_an_answer_is_the_callers_own(self):
        line = self.line()
        first = answers(line)
        kept = list(first)
        first.clear()
        self.assertEqual(answers(line), kept)

    def test_prints_nothing(self):
        out, err = io.StringIO(), io.StringIO()
        with contextlib.redirect_stdout(out), contextlib.redirect_stderr(err):
            answers(self.line())
        self.assertEqual((out.getvalue(), err.getvalue()), ("", ""))


class Long(unittest.TestCase):
    def test_3000_calls(self):
        self.assertEqual(answers([4, 0, 0] * 3000), [1, 0] * 3000)

    def test_many_changes_with_a_sum_behind_each(self):
        line = build(0, [(row * 1000, b"") for row in range(3000)])
        for row in range(1000):
            line += put(row * 1000 + 1, b"") + sum_()
        self.assertLessEqual(len(line), 16000)
        given = answers(line)
        self.assertEqual(given[:4], [1, 3000, 1, 0])
        whole = [(row * 1000, b"") for row in range(3000)] + [(row * 1000 + 1, b"") for row in range(1000)]
        self.assertEqual(given[-2:], answers(build(0, whole) + sum_())[-2:])

    def test_the_same_page_asked_for_again_and_again(self):
        made = build(0, paired_entries(1))
        one = answers(made + page(0, 0))
        self.assertTrue(answers(made + page(0, 0) * 2000) == one[:2] + one[2:] * 2000)

    def test_many_entries_and_long_answers(self):
        line = []
        for row in range(2000):
            line += put(row, [row % 7])
        line += range_() * 100
        given = answers(line)
        self.assertEqual(len(given), 2000 * 2 + 100 * (2 + 2000 * 3))
        self.assertEqual(given[:4000], [1, 0] * 2000)
        self.assertEqual(given[4000:4005], [6001, 2000, 0, 1, 0])
