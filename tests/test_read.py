import struct
import unittest

from tests.helper import (MOST_ROW, build, cut_entries, flat, item_bytes, last, model_levels, page_bytes,
                          paired_entries, puts, read, run, sealed, sum_, sum_of, told, whole)


def told_above(items):
    return [number for row, key, below, crc in items for number in [row, len(key), *key, below, crc]]


class Read(unittest.TestCase):
    def test_a_leaf(self):
        entries = [(7, b"a"), (MOST_ROW, b"a"), (0, b"abc"), (1, b"b")]
        self.assertEqual(run(read(page_bytes(0, entries))), [[4, 0, *told(entries)]])

    def test_a_leaf_byte_by_byte(self):
        body = bytes([0, 0, 2, 0, 97, 98, 4, 3, 2, 1, 2, 0, 1, 0, 99, 0, 0, 0, 0])
        self.assertEqual(run(read(sealed(0, 2, body))), [[2, 0, 0x01020304, 2, 97, 98, 0, 3, 97, 98, 99]])

    def test_above_the_leaves(self):
        items = [(7, b"a", 3, 77), (8, b"a", 1, MOST_ROW), (0, b"ab", 65536, 0), (1, b"c", 0, 1)]
        for level in (1, 2, 17, 255):
            self.assertEqual(run(read(page_bytes(level, items))), [[4, level, *told_above(items)]])

    def test_without_items(self):
        self.assertEqual(run(read(page_bytes(0, []))), [[0, 0]])
        self.assertEqual(run(read(page_bytes(3, []))), [[0, 3]])

    def test_each_page_of_an_index(self):
        entries = paired_entries(60) + [(number, bytes([9, number])) for number in range(60)]
        levels = model_levels(entries)
        self.assertGreater(len(levels), 2)
        entries.sort(key=lambda entry: (entry[1], entry[0]))
        answers = run(*[read(data) for data in levels[0]])
        self.assertEqual([number for answer in answers for number in answer[2:]], told(entries))
        self.assertEqual({answer[1] for answer in answers}, {0})
        for level in range(1, len(levels)):
            answers = run(*[read(data) for data in levels[level]])
            self.assertEqual({answer[1] for answer in answers}, {level})
            self.assertEqual(sum(answer[0] for answer in answers), len(levels[level - 1]))
            # Every key here has one byte or two, and the sums below stand in order.
            sums = [crc for answer in answers for crc in self.last_numbers(answer)]
            self.assertEqual(sums, [sum_of(data) for data in levels[level - 1]])

    def last_numbers(self, answer):
        """The last number of each item of a page above the leaves."""
        at = 2
        while at < len(answer):
            at += 4 + answer[at + 1]
            yield answer[at - 1]

    def test_does_not_ask_where_pages_end(self):
        cuts = cut_entries(3, b"k")
        self.assertEqual(run(read(page_bytes(0, cuts))), [[3, 0, *told(cuts)]])
        items = [(1, b"", 1, 32), (2, b"", 1, 64), (3, b"", 1, 96)]
        self.assertEqual(run(read(page_bytes(1, items))), [[3, 1, *told_above(items)]])

    def test_4096_bytes_and_keys_of_1000(self):
        entries = [(0, bytes([byte]) * 1000) for byte in (1, 2, 3, 4)] + [(0, b"\x05" * 49)]
        data = page_bytes(0, entries)
        self.assertEqual(len(data), 4096)
        self.assertEqual(run(read(data)), [[5, 0, *told(entries)]])

    def test_a_key_of_1000_by_what_is_in_common(self):
        entries = [(0, b"k" * 999), (0, b"k" * 1000), (1, b"k" * 1000)]
        self.assertEqual(run(read(page_bytes(0, entries))), [[3, 0, *told(entries)]])

    def test_all_is_as_it_was(self):
        entries = [(1, b"a"), (2, b"b")]
        leaf = page_bytes(0, [(5, b"x")])
        self.assertEqual(whole(*puts(entries), read(leaf), read(leaf[:-1])), entries)
        self.assertEqual(last(*puts(entries), sum_(), read(leaf), sum_()), last(build(0, entries), sum_()))


class NoPage(unittest.TestCase):
    def expect_none(self, *pages):
        for data in pages:
            self.assertEqual(run(read(data)), [[-6]], data)

    def test_too_few_bytes(self):
        leaf = page_bytes(0, [(1, b"ab"), (2, b"abc")])
        self.expect_none(*[leaf[:size] for size in range(len(leaf))])
        self.expect_none(*[page_bytes(0, [])[:size] for size in range(7)])

    def test_too_few_bytes_with_a_right_sum(self):
        body = item_bytes(0, b"ab", 1) + item_bytes(2, b"c", 2)
        self.expect_none(*[sealed(0, 2, body[:size]) for size in range(len(body))])
        body = item_bytes(0, b"ab", 1, 1, 9) + item_bytes(2, b"c", 2, 1, 9)
        self.expect_none(*[sealed(1, 2, body[:size]) for size in range(len(body))])

    def test_something_behind_the_last_item(self):
        leaf = page_bytes(0, [(1, b"ab"), (2, b"abc")])
        self.expect_none(leaf + b"\x00", leaf + leaf, page_bytes(0, []) + b"\x00")
        body = item_bytes(0, b"ab", 1) + item_bytes(2, b"c", 2)
        self.expect_none(sealed(0, 2, body + b"\x00"), sealed(0, 1, body), sealed(0, 0, body), sealed(0, 3, body),
                         sealed(0, 65535, body), sealed(0, 0, b"\x00"), sealed(2, 0, b"\x00"))

    def test_items_of_the_other_kind(self):
        self.expect_none(sealed(1, 1, item_bytes(0, b"ab", 1)), sealed(0, 1, item_bytes(0, b"ab", 1, 1, 9)))

    def test_4097_bytes(self):
        entries = [(0, bytes([byte]) * 1000) for byte in (1, 2, 3, 4)]
        self.assertEqual(len(page_bytes(0, entries + [(0, b"\x05" * 50)])), 4097)
        self.expect_none(page_bytes(0, entries + [(0, b"\x05" * 50)]), page_bytes(0, entries + [(0, b"\x05" * 153)]))
        items = [(0, bytes([byte]) * 1000, 1, 1) for byte in (1, 2, 3, 4)]
        self.assertEqual(run(read(page_bytes(1, items + [(0, b"\x05" * 9, 1, 1)])))[0][0], 5)
        self.expect_none(page_bytes(1, items + [(0, b"\x05" * 10, 1, 1)]))

    def test_a_wrong_sum(self):
        for data in (page_bytes(0, [(1, b"ab"), (2, b"abc")]), page_bytes(2, [(1, b"ab", 3, 4)]), page_bytes(0, [])):
            for bit in range(8 * len(data)):
                broken = bytearray(data)
                broken[bit // 8] ^= 1 << bit % 8
                self.expect_none(broken)
        data = page_bytes(0, [(1, b"ab")])
        self.expect_none(data[:3] + struct.pack(">I", sum_of(data)) + data[7:], data[:3] + b"\x00" * 4 + data[7:])

    def test_a_common_beginning_that_is_not_told_in_full(self):
        first = item_bytes(0, b"abc", 1)
        self.assertEqual(run(read(sealed(0, 2, first + item_bytes(2, b"d", 1))))[0][0], 2)
        self.expect_none(sealed(0, 2, first + item_bytes(1, b"bd", 1)), sealed(0, 2, first + item_bytes(0, b"abd", 1)),
                         sealed(0, 2, first + item_bytes(2, b"c", 2)), sealed(0, 2, first + item_bytes(0, b"abc", 2)),
                         sealed(0, 2, first + item_bytes(2, b"cd", 1)))

    def test_a_common_beginning_longer_than_the_key_before(self):
        first = item_bytes(0, b"abc", 1)
        self.assertEqual(run(read(sealed(0, 2, first + item_bytes(3, b"d", 1))))[0][0], 2)
        self.expect_none(*[sealed(0, 2, first + item_bytes(common, ending, 2))
                           for common in (4, 5, 259, 65535) for ending in (b"", b"d", b"abcd")])

    def test_a_common_beginning_that_is_not_0_in_the_first_item(self):
        self.expect_none(*[sealed(0, 1, item_bytes(common, b"abc", 1)) for common in (1, 2, 3, 65535)])
        self.expect_none(sealed(0, 1, item_bytes(1, b"", 1)), sealed(1, 1, item_bytes(1, b"a", 1, 1, 1)))

    def test_a_key_of_1001_bytes(self):
        self.assertEqual(run(read(page_bytes(0, [(1, b"k" * 1000)])))[0][0], 1)
        self.expect_none(page_bytes(0, [(1, b"k" * 1001)]), page_bytes(1, [(1, b"k" * 1001, 1, 1)]),
                         page_bytes(0, [(1, b"k" * 2000)]), page_bytes(0, [(1, b"k" * 1000), (1, b"k" * 1001)]),
                         page_bytes(0, [(1, b"k" * 600), (1, b"k" * 600 + b"l" * 401)]))

    def test_items_that_do_not_rise(self):
        self.expect_none(page_bytes(0, [(1, b"b"), (2, b"a")]), page_bytes(0, [(2, b"a"), (1, b"a")]),
                         page_bytes(0, [(1, b"ab"), (2, b"a")]), page_bytes(0, [(0, b"a"), (1, b"b"), (5, b"")]),
                         page_bytes(1, [(1, b"b", 1, 1), (2, b"a", 2, 2)]),
                         page_bytes(1, [(2, b"a", 1, 1), (1, b"a", 2, 2)]))

    def test_equal_items(self):
        self.expect_none(page_bytes(0, [(1, b"a"), (1, b"a")]), page_bytes(0, [(0, b""), (0, b"")]),
                         page_bytes(1, [(1, b"a", 1, 1), (1, b"a", 1, 1)]),
                         page_bytes(1, [(1, b"a", 1, 1), (1, b"a", 1, 2)]),
                         page_bytes(1, [(1, b"a", 1, 1), (1, b"a", 2, 1)]))

    def test_any_bytes(self):
        self.expect_none(b"", b"\x00", b"\x00" * 7, b"\xff" * 7, b"\x00" * 4096, b"\xff" * 4200, bytes(range(256)))

    def test_refused_pages_of_an_index(self):
        for data in flat(model_levels(paired_entries(4))):
            self.expect_none(data[:-1], data[1:], data[:-1] + bytes([data[-1] ^ 128]))
