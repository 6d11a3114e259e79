"""levels, pages, page and sum: the bytes of pages, and where they end."""

import random
import struct
import unittest

from tests.helper import (TOP, build, crc32c, cut_entries, drop, is_cut, item_bytes, laid_out, last, levels,
                          model_levels, open_, page, page_bytes, pages, paired_entries, put, puts, run, sealed, sum_,
                          sum_of, uncut, uncut_entries, whole)


def shuffled(entries, seed=1):
    mixed = list(entries)
    random.Random(seed).shuffle(mixed)
    return mixed


class WithoutEntries(unittest.TestCase):
    LEAF = b"\x00\x00\x00" + struct.pack("<I", crc32c(b"\x00\x00\x00"))

    def test_one_leaf_without_items(self):
        self.assertEqual(self.LEAF, bytes([0, 0, 0, 0x7A, 0xA3, 0x64, 0x60]))
        self.assertEqual(run(levels(), pages(0), page(0, 0), sum_()), [[1], [1], [7, *self.LEAF], [0x6064A37A]])

    def test_nothing_past_it(self):
        self.assertEqual(run(pages(1), page(0, 1), page(1, 0), pages(TOP), page(TOP, 0), page(0, TOP)), [[-3]] * 6)

    def test_so_too_behind_open_drop_and_build(self):
        for calls in ([open_(0)], [open_(1)], [put(1, b"a"), drop(1, b"a")], [put(1, b"a"), open_(1)],
                      [build(0, [])], [put(1, b"a"), sum_(), build(1, [])], [put(1, b"a"), sum_(), drop(1, b"a")]):
            self.assertEqual(laid_out(*calls), [[self.LEAF]])
            self.assertEqual(last(*calls, sum_()), [0x6064A37A])


class BytesOfAPage(unittest.TestCase):
    def test_one_entry(self):
        body = bytes([0, 0, 2, 0, 97, 98, 4, 3, 2, 1])
        crc = crc32c(b"\x00\x01\x00" + body)
        data = b"\x00\x01\x00" + struct.pack("<I", crc) + body
        self.assertEqual(run(put(0x01020304, b"ab"), page(0, 0), sum_())[1:], [[17, *data], [crc]])

    def test_common_beginnings_within_a_page(self):
        entries = [uncut(key) for key in (b"", b"a", b"abc", b"abcd", b"abd", b"b", b"b\x00")]
        rows = [row for row, _ in entries]
        body = (item_bytes(0, b"", rows[0]) + item_bytes(0, b"a", rows[1]) + item_bytes(1, b"bc", rows[2])
                + item_bytes(3, b"d", rows[3]) + item_bytes(2, b"d", rows[4]) + item_bytes(0, b"b", rows[5])
                + item_bytes(1, b"\x00", rows[6]))
        self.assertEqual(laid_out(*puts(shuffled(entries))), [[sealed(0, 7, body)]])

    def test_rows_of_one_key_have_it_all_in_common(self):
        entries = uncut_entries(3, b"key")
        body = (item_bytes(0, b"key", entries[0][0]) + item_bytes(3, b"", entries[1][0])
                + item_bytes(3, b"", entries[2][0]))
        self.assertEqual(laid_out(*puts(entries)), [[sealed(0, 3, body)]])

    def test_more_than_255_in_common_and_items(self):
        key = b"k" * 700
        entries = uncut_entries(300) + uncut_entries(1, key) + uncut_entries(1, key + b"l" * 300)
        found = laid_out(build(0, entries))
        self.assertEqual(found, model_levels(entries))
        self.assertEqual(found[0][0][:3], bytes([0, 302 % 256, 302 // 256]))
        self.assertIn(struct.pack("<HH", 700, 300) + b"l" * 300, found[0][0])

    def test_above_the_leaves(self):
        entries = cut_entries(2, b"k") + [uncut(b"kl"), uncut(b"m")]
        leaves = [page_bytes(0, entries[:1]), page_bytes(0, entries[1:2]), page_bytes(0, entries[2:])]
        body = (item_bytes(0, b"k", entries[0][0], 1, sum_of(leaves[0]))
                + item_bytes(1, b"", entries[1][0], 1, sum_of(leaves[1]))
                + item_bytes(1, b"l", entries[2][0], 2, sum_of(leaves[2])))
        self.assertTrue(sum_of(leaves[1]) % 32)
        root = sealed(1, 3, body)
        self.assertEqual(laid_out(*puts(shuffled(entries))), [leaves, [root]])
        self.assertEqual(last(*puts(entries), sum_()), [sum_of(root)])


class WhereLeavesEnd(unittest.TestCase):
    def test_behind_a_cut(self):
        entries = uncut_entries(3, b"a") + cut_entries(1, b"b") + uncut_entries(2, b"c")
        found = laid_out(*puts(entries))
        self.assertEqual(found[0], [page_bytes(0, entries[:4]), page_bytes(0, entries[4:])])

    def test_behind_a_cut_that_is_the_first(self):
        entries = cut_entries(1, b"b") + uncut_entries(2, b"c")
        self.assertEqual(laid_out(*puts(entries))[0], [page_bytes(0, entries[:1]), page_bytes(0, entries[1:])])

    def test_a_cut_at_the_end_has_no_page_behind_it(self):
        entries = uncut_entries(3, b"a") + cut_entries(1, b"b")
        self.assertEqual(laid_out(*puts(entries)), [[page_bytes(0, entries)]])
        self.assertEqual(laid_out(*puts(entries[3:])), [[page_bytes(0, entries[3:])]])

    def test_the_cut_is_told_by_key_and_row(self):
        for key in (b"", b"k", b"k" * 1000):
            for row in range(40):
                size = 2 if is_cut(row, key) else 1
                self.assertEqual(last(put(row, key), put(2 ** 32 - 1, key), pages(0)), [size])

    def long_entries(self, last_size):
        """Five entries, with 1000 bytes in each key but the last; 4047 + last_size bytes in all."""
        return [uncut(bytes([byte]) * 1000) for byte in (1, 2, 3, 4)] + [uncut(b"\x05" * last_size)]

    def test_4096_bytes_are_just_reached(self):
        entries = self.long_entries(49)
        found = laid_out(build(0, entries))
        self.assertEqual(found, [[page_bytes(0, entries)]])
        self.assertEqual(len(found[0][0]), 4096)

    def test_4097_would_be_too_many(self):
        entries = self.long_entries(50)
        self.assertEqual(len(page_bytes(0, entries)), 4097)
        self.assertEqual(laid_out(build(0, entries))[0], [page_bytes(0, entries[:4]), page_bytes(0, entries[4:])])

    def test_an_item_behind_4096_bytes(self):
        entries = self.long_entries(49) + [uncut(b"\x06")]
        self.assertEqual(laid_out(build(0, entries))[0], [page_bytes(0, entries[:5]), page_bytes(0, entries[5:])])

    def test_what_is_in_common_takes_no_room(self):
        stem = b"s" * 990
        entries = [uncut(stem + bytes([byte])) for byte in range(15)]
        self.assertEqual(laid_out(build(0, entries)), [[page_bytes(0, entries)]])

    def test_the_first_item_behind_a_full_page_has_nothing_in_common(self):
        entries = uncut_entries(600, b"same")
        found = laid_out(build(0, entries))
        # 7 + 12 bytes with the first item, 8 with each one more.
        self.assertEqual([len(data) for data in found[0]], [4091, 7 + 12 + 89 * 8])
        self.assertEqual(found[0], [page_bytes(0, entries[:510]), page_bytes(0, entries[510:])])
        self.assertEqual(found[0][1][7:15], struct.pack("<HH", 0, 4) + b"same")


class WherePagesAboveEnd(unittest.TestCase):
    def leaf_that(self, byte, multiple):
        """An entry that's a leaf by itself, whose sum is a multiple of 32 or isn't."""
        # The lowest bits of such a leaf's sum hang on its key's size alone: they're 0 with 64 bytes.
        entry = cut_entries(1, bytes([byte]) * (64 if multiple else 1))[0]
        self.assertEqual(sum_of(page_bytes(0, [entry])) % 32 == 0, multiple)
        return entry

    def entries_with(self, multiples):
        return [self.leaf_that(97 + place, multiple) for place, multiple in enumerate(multiples)]

    def sizes(self, multiples):
        """How many items each page of level 1 has, above leaves of one entry each."""
        entries = self.entries_with(multiples)
        found = laid_out(build(0, entries))
        self.assertEqual(found[0], [page_bytes(0, [entry]) for entry in entries])
        self.assertEqual(found, model_levels(entries))
        return [data[1] for data in found[1]]

    def test_behind_a_cut(self):
        self.assertEqual(self.sizes([False, True, False, False]), [2, 2])
        self.assertEqual(self.sizes([False, False, True, False, True, False]), [3, 2, 1])

    def test_a_cut_that_is_the_first_in_its_page_is_none(self):
        self.assertEqual(self.sizes([True, False, False]), [3])
        self.assertEqual(self.sizes([True, True, False]), [2, 1])
        self.assertEqual(self.sizes([False, True, True, False, True, False]), [2, 3, 1])

    def test_a_cut_at_the_end_has_no_page_behind_it(self):
        self.assertEqual(self.sizes([False, False, True]), [3])
        self.assertEqual(self.sizes([True, True]), [2])

    def long_entries(self, last_size):
        """Five leaves of one entry; a page above them has 4087 + last_size bytes."""
        keys = [bytes([byte]) * 1000 for byte in (1, 2, 3, 4)] + [b"\x05" * last_size]
        return [cut_entries(1, key)[0] for key in keys]

    def test_4096_bytes_are_just_reached(self):
        found = laid_out(build(0, self.long_entries(9)))
        self.assertEqual([len(level) for level in found], [5, 1])
        self.assertEqual(len(found[1][0]), 4096)

    def test_4097_would_be_too_many(self):
        entries = self.long_entries(10)
        found = laid_out(build(0, entries))
        self.assertEqual([[data[1] for data in level] for level in found[1:]], [[4, 1], [2]])
        self.assertEqual(found, model_levels(entries))


class Levels(unittest.TestCase):
    """Indexes of one page, of two levels, of three and of four."""

    KINDS = {1: uncut_entries(30), 2: cut_entries(3) + uncut_entries(3, b"z"),
             3: paired_entries(150), 4: paired_entries(1300)}

    def test_as_the_document_has_them(self):
        for how_many, entries in self.KINDS.items():
            found = laid_out(build(0, entries))
            self.assertEqual(len(found), how_many)
            self.assertEqual(found, model_levels(entries))

    def test_the_last_level_and_page_and_one_past(self):
        for how_many, entries in self.KINDS.items():
            sizes = [len(level) for level in model_levels(entries)]
            made = build(0, entries)
            self.assertEqual(run(made, levels(), pages(how_many - 1), pages(how_many), pages(TOP))[1:],
                             [[how_many], [1], [-3], [-3]])
            self.assertEqual(run(made, page(how_many, 0), page(TOP, 0), page(TOP, TOP))[1:], [[-3]] * 3)
            for level, size in enumerate(sizes):
                answers = run(made, pages(level), page(level, size - 1), page(level, size), page(level, TOP))[1:]
                self.assertEqual([answers[0], answers[2], answers[3]], [[size], [-3], [-3]])
                self.assertEqual(answers[1][0], len(answers[1]) - 1)

    def test_sum_is_the_roots(self):
        for entries in self.KINDS.values():
            root = model_levels(entries)[-1][0]
            self.assertEqual(last(build(0, entries), sum_()), [sum_of(root)])

    def test_the_same_pages_in_whatever_order_it_was_filled(self):
        for how_many in (1, 2, 3):
            entries = self.KINDS[how_many]
            right = model_levels(entries)
            for seed in range(3):
                self.assertEqual(laid_out(*puts(shuffled(entries, seed))), right)
            self.assertEqual(laid_out(*puts(reversed(entries))), right)

    def test_the_same_pages_behind_drops(self):
        entries = self.KINDS[3]
        others = [(row, b"other") for row in range(100)] + [(row, b"\x07") for row in range(40)]
        others = [entry for entry in others if entry not in entries]
        filled = puts(shuffled(entries + others))
        right = model_levels(entries)
        for seed in (2, 3):
            drops = [drop(*entry) for entry in shuffled(others, seed)]
            self.assertEqual(laid_out(*filled, *drops), right)
            self.assertEqual(laid_out(*filled, sum_(), *drops), right)

    def test_2600_puts_are_as_one_build(self):
        entries = self.KINDS[4]
        self.assertLessEqual(sum(len(one) for one in puts(entries)), 16000)
        self.assertEqual(last(*puts(shuffled(entries)), sum_()), last(build(1, [(1, b"x")]), build(0, entries), sum_()))

    def test_unique_does_not_change_pages(self):
        entries = [(number, bytes([number])) for number in range(200)]
        self.assertEqual(laid_out(open_(1), *puts(entries)), laid_out(*puts(entries)))

    def test_other_entries_have_other_sums(self):
        sums = [last(*puts(entries), sum_())[0] for entries in
                ([], [(0, b"")], [(1, b"")], [(0, b"\x00")], [(0, b""), (1, b"")], [(256, b"")])]
        self.assertEqual(len(set(sums)), len(sums))


class BehindChanges(unittest.TestCase):
    """Pages asked for ahead of a change don't show behind it, nor change what is there then."""

    def steps(self, source, entries, pool, how_many):
        """Changes, and the entries behind each."""
        for _ in range(how_many):
            entry = source.choice(pool)
            if entry in entries:
                entries.remove(entry)
                yield drop(*entry), list(entries)
            else:
                entries.append(entry)
                yield put(*entry), list(entries)

    def expect_as_built_anew(self, pool, seed, how_many):
        source = random.Random(seed)
        entries = source.sample(pool, len(pool) // 2)
        line = [build(0, entries), sum_()]
        right = []
        for change, behind in self.steps(source, entries, pool, how_many):
            line += [change, sum_()]
            right.append(last(build(0, behind), sum_()))
        self.assertEqual(run(*line)[3::2], right)
        self.assertEqual(laid_out(*line), model_levels(entries))

    def test_short_leaves(self):
        self.expect_as_built_anew(paired_entries(150) + uncut_entries(20, b"u"), 1, 120)

    def test_leaves_that_end_without_a_cut(self):
        self.expect_as_built_anew(uncut_entries(700), 2, 60)

    def test_long_keys(self):
        pool = [(row, bytes([byte]) * 300) for byte in range(30) for row in (0, 1)]
        self.expect_as_built_anew(pool, 3, 20)

    def test_any_entries(self):
        pool = [(row, bytes([byte % 7]) * (byte % 5)) for byte in range(35) for row in range(12)]
        self.expect_as_built_anew(sorted(set(pool)), 4, 150)

    def test_an_entry_behind_the_last_leaf(self):
        entries = uncut_entries(511)
        line = [build(0, entries[:509]), sum_(), put(*entries[509]), sum_(), put(*entries[510]), pages(0)]
        self.assertEqual(run(*line)[1::2], [last(build(0, entries[:509]), sum_()),
                                            last(build(0, entries[:510]), sum_()), [1]])
        self.assertEqual(laid_out(*line, put(2 ** 32 - 1, b"")), model_levels(entries + [(2 ** 32 - 1, b"")]))

    def test_asking_changes_nothing(self):
        entries = cut_entries(5)
        self.assertEqual(whole(*puts(entries), levels(), pages(0), page(0, 0), page(9, 9), sum_()), entries)

    def test_refusals_change_no_pages(self):
        entries = cut_entries(5)
        line = [*puts(entries), sum_(), put(*entries[0]), drop(9, b"none"), put(TOP, b""), open_(2), pages(7)]
        self.assertEqual(laid_out(*line), model_levels(entries))
