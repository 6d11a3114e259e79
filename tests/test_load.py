import unittest

from pageindex.entries import Index
from pageindex.loading import load as load_below
from tests.helper import (NONE, PAST, TOP, begins, build, count, cut_entries, drop, find, flat, laid_out, last, levels,
                          load, model_levels, nth, open_, page_bytes, paired_entries, put, puts, range_, rank, run,
                          sum_, told, uncut_entries, whole)

# Three leaves of two entries each, which have one key, and a root.
ENTRIES = paired_entries(3)
PAGES = flat(model_levels(ENTRIES))
LEAVES = PAGES[:3]
ROOT = PAGES[3]
BROKEN = LEAVES[1][:-1] + bytes([LEAVES[1][-1] ^ 1])
EMPTY = page_bytes(0, [])


def in_order(entry):
    return entry[1], entry[0]


class Load(unittest.TestCase):
    def test_all_pages_of_an_index(self):
        self.assertEqual(len(LEAVES), 3)
        self.assertEqual(run(load(0, PAGES), count()), [[6], [6]])
        self.assertEqual(whole(load(0, PAGES)), ENTRIES)
        self.assertEqual(laid_out(load(0, PAGES)), [LEAVES, [ROOT]])

    def test_of_one_page(self):
        entries = uncut_entries(5, b"k")
        self.assertEqual(whole(load(0, [page_bytes(0, entries)])), entries)

    def test_of_three_levels(self):
        entries = paired_entries(150)
        found = model_levels(entries)
        self.assertEqual(len(found), 3)
        self.assertEqual(whole(load(0, flat(found))), entries)
        self.assertEqual(laid_out(load(0, flat(found))), found)

    def test_without_entries(self):
        for unique in (0, 1):
            self.assertEqual(run(put(1, b"a"), load(unique, [EMPTY]), count(), levels())[1:], [[0], [0], [1]])
            self.assertEqual(laid_out(put(1, b"a"), load(unique, [EMPTY])), [[EMPTY]])

    def test_what_was_there_is_gone(self):
        self.assertEqual(whole(build(1, [(1, b"old"), ENTRIES[0]]), sum_(), load(0, PAGES)), ENTRIES)
        self.assertEqual(laid_out(build(1, [(1, b"old"), ENTRIES[0]]), sum_(), load(0, PAGES)), [LEAVES, [ROOT]])

    def test_full_pages(self):
        entries = uncut_entries(1200, b"")
        pages = flat(model_levels(entries))
        self.assertEqual([len(data) for data in pages], [4095, 4095, 1431, 55])
        self.assertEqual(whole(load(0, pages)), entries)

    def test_unique_of_one_with_no_key_twice(self):
        entries = [cut_entries(1, key)[0] for key in (b"a", b"ab", b"b")]
        pages = flat(model_levels(entries))
        for unique in (0, 1):
            self.assertEqual(whole(load(unique, pages)), entries)

    def test_unique_holds_for_a_put_behind_it(self):
        row, key = entry = uncut_entries(1, b"a")[0]
        pages = [page_bytes(0, [entry])]
        self.assertEqual(run(load(1, pages), put(row + 1, key), put(row, key), put(row, b"b")), [[1], [-4], [-3], [0]])
        self.assertEqual(run(load(0, pages), put(row + 1, key), put(row, key), put(row, b"b")), [[1], [0], [-3], [0]])
        self.assertEqual(last(open_(1), load(0, pages), put(row + 1, key)), [0])
        self.assertEqual(last(open_(1), load(0, [EMPTY]), put(1, b"a"), put(2, b"a")), [0])
        self.assertEqual(last(open_(0), load(1, [EMPTY]), put(1, b"a"), put(2, b"a")), [-4])

    def test_many_small_pages(self):
        entries = cut_entries(600)
        pages = flat(model_levels(entries))
        self.assertGreater(len(pages), 600)
        self.assertEqual(run(load(0, pages), count()), [[600], [600]])


class Refused(unittest.TestCase):
    def expect(self, answer, pages, unique=0):
        self.assertEqual(run(load(unique, pages)), [[answer]])

    def test_unique_above_1(self):
        for unique in (2, 3, 2 ** 32 + 1, TOP):
            for pages in ([], PAGES, [b""], [EMPTY]):
                self.expect(-2, pages, unique)

    def test_no_pages_at_all(self):
        self.expect(-100, [])
        self.expect(-100, [], 1)

    def test_one_that_cannot_be_read(self):
        for number in range(4):
            for broken in (b"", PAGES[number][:-1], PAGES[number] + b"\x00", BROKEN, b"\x00" * 4200):
                self.expect(-100 - number, PAGES[:number] + [broken] + PAGES[number + 1:])

    def test_each_byte_of_each_page(self):
        for number, data in enumerate(PAGES):
            for place in range(len(data)):
                broken = data[:place] + bytes([data[place] ^ 1]) + data[place + 1:]
                self.expect(-100 - number, PAGES[:number] + [broken] + PAGES[number + 1:])

    def test_the_first_that_cannot_be_read(self):
        self.expect(-101, [LEAVES[0], b"", b"", ROOT])
        self.expect(-100, [b""] * 4)
        self.expect(-100, [b""])

    def test_one_lacking(self):
        self.expect(-103, LEAVES)
        self.expect(-103, PAGES[:3])
        # Without its last leaf or another the root isn't the one of the entries that are left.
        self.expect(-102, LEAVES[:2] + [ROOT])
        self.expect(-102, LEAVES[1:] + [ROOT])
        self.expect(-102, [LEAVES[0], LEAVES[2], ROOT])

    def test_one_too_many(self):
        for more in (ROOT, EMPTY, LEAVES[0], LEAVES[2], b"", BROKEN, page_bytes(2, [])):
            self.expect(-104, PAGES + [more])
        self.expect(-101, [EMPTY, page_bytes(1, [])])
        self.expect(-101, [EMPTY, EMPTY])
        self.expect(-101, [page_bytes(0, ENTRIES[:2]), ROOT])

    def test_two_changed_about(self):
        self.expect(-101, [LEAVES[1], LEAVES[0], LEAVES[2], ROOT])
        self.expect(-102, [LEAVES[0], LEAVES[2], LEAVES[1], ROOT])
        # Behind two leaves the root ends them: the index of their entries has another root.
        self.expect(-102, [LEAVES[0], LEAVES[1], ROOT, LEAVES[2]])
        self.expect(-100, [ROOT] + LEAVES)

    def test_two_pages_above_changed_about(self):
        found = model_levels(paired_entries(150))
        pages = flat(found)
        first = len(found[0])
        mixed = pages[:first] + [pages[first + 1], pages[first]] + pages[first + 2:]
        self.expect(-100 - first, mixed)
        self.expect(-100 - first, pages[:first] + pages[-1:] + pages[first + 1:-1] + pages[first:first + 1])
        self.expect(-100 - first, pages[:first] + found[2] + found[1])
        self.expect(-100 - len(pages) + 1, pages[:-1])
        self.expect(-100 - len(pages) + 2, pages[:-2])
        self.expect(-100 - first, pages[:first])

    def test_entries_that_do_not_stand_behind_those_before(self):
        self.expect(-101, [LEAVES[0], LEAVES[0], LEAVES[1], LEAVES[2], ROOT])
        self.expect(-103, LEAVES + [LEAVES[2], ROOT])
        first = uncut_entries(3, b"m")
        behind = (first[2][0] + 1, b"m")
        for entry in (first[2], first[1], (0, b"m"), (2 ** 32 - 1, b"l"), (0, b"")):
            self.expect(-101, [page_bytes(0, first), page_bytes(0, [entry])])
            self.expect(-101, [page_bytes(0, first), page_bytes(0, sorted([entry, behind], key=in_order))])
        # This one does stand there, but the index has it in the first leaf.
        self.expect(-100, [page_bytes(0, first), page_bytes(0, [behind])])

    def test_a_leaf_without_items_between(self):
        self.expect(-101, [LEAVES[0], EMPTY, LEAVES[1], LEAVES[2], ROOT])
        self.expect(-100, [EMPTY] + PAGES)
        # Behind it the entries are still held against those ahead of it.
        self.expect(-102, [LEAVES[1], EMPTY, LEAVES[0]])
        self.expect(-102, [LEAVES[1], EMPTY, LEAVES[1]])

    def test_a_key_twice_where_unique_is_1(self):
        one, two = uncut_entries(2, b"a")
        self.expect(2, [page_bytes(0, [one, two])], 0)
        self.expect(-100, [page_bytes(0, [one, two])], 1)
        # In the second leaf, by itself or with the one before.
        entries = cut_entries(1, b"a") + uncut_entries(2, b"b")
        self.expect(3, flat(model_levels(entries)), 0)
        self.expect(-101, flat(model_levels(entries)), 1)
        entries = cut_entries(1, b"a") + [(2 ** 32 - 1, b"a")]
        self.assertEqual(len(model_levels(entries)[0]), 2)
        self.expect(2, flat(model_levels(entries)), 0)
        self.expect(-101, flat(model_levels(entries)), 1)
        self.expect(-100, PAGES, 1)

    def test_a_key_twice_with_a_leaf_without_items_between(self):
        entries = cut_entries(2, b"a")
        pages = [page_bytes(0, entries[:1]), EMPTY, page_bytes(0, entries[1:])]
        self.expect(-102, pages, 1)
        self.expect(-101, pages, 0)

    def test_what_is_wrong_with_leaves_comes_first(self):
        # The first leaf ends too late; but the third can't be read, or doesn't stand behind the second.
        late = page_bytes(0, ENTRIES[:4])
        self.expect(-100, [late, LEAVES[2], ROOT])
        self.expect(-102, [late, LEAVES[2], b"", ROOT])
        self.expect(-102, [late, LEAVES[2], LEAVES[1], ROOT])
        self.expect(-101, [late, LEAVES[1], LEAVES[2], ROOT])

    def test_what_cannot_be_read_behind_the_leaves(self):
        # A page above the leaves that can be read is where they end; what is behind it isn't read for itself.
        late = page_bytes(0, ENTRIES[:4])
        self.expect(-100, [late, LEAVES[2], ROOT, b""])
        self.expect(-102, [late, LEAVES[2], ROOT[:-1] + bytes([ROOT[-1] ^ 1])])

    def test_right_each_by_itself_but_not_there(self):
        # Leaves that end too late, or too soon.
        self.expect(-100, [page_bytes(0, ENTRIES)])
        self.expect(-100, [page_bytes(0, ENTRIES[:1]), page_bytes(0, ENTRIES[1:2])] + PAGES[1:])
        self.expect(-101, [LEAVES[0], page_bytes(0, ENTRIES[2:]), ROOT])
        self.expect(-102, [LEAVES[0], LEAVES[1], page_bytes(0, ENTRIES[4:5]), page_bytes(0, ENTRIES[5:]), ROOT])
        uncut = uncut_entries(4, b"k")
        self.expect(-100, [page_bytes(0, uncut[:2]), page_bytes(0, uncut[2:])])

    def test_a_root_that_is_not_theirs(self):
        other = model_levels(ENTRIES[:4])[1][0]
        self.expect(-103, LEAVES + [other])
        items = [(*entry, 2, 5) for entry in ENTRIES[::2]]
        self.expect(-103, LEAVES + [page_bytes(1, items)])
        self.expect(-103, LEAVES + [page_bytes(2, items)])
        self.expect(-103, LEAVES + [page_bytes(1, [])])
        self.expect(-101, [page_bytes(0, uncut_entries(2)), page_bytes(1, [(*uncut_entries(1)[0], 2, 5)])])

    def test_without_leaves(self):
        self.expect(-100, [ROOT])
        self.expect(-100, [page_bytes(1, [])])

    def test_all_is_as_it_was(self):
        kept = [(1, b"a"), (2, b"b")]
        for refused in (load(2, PAGES), load(0, []), load(0, PAGES[:-1]), load(0, PAGES + [EMPTY]), load(1, PAGES),
                        load(0, [BROKEN]), load(0, [LEAVES[1], LEAVES[0]])):
            self.assertLess(last(refused)[0], 0)
            self.assertEqual(whole(*puts(kept), refused), kept)
            self.assertEqual(laid_out(*puts(kept), sum_(), refused), model_levels(kept))
            self.assertEqual(last(build(0, kept), refused, put(7, b"a")), [0])
            self.assertEqual(last(build(1, kept), refused, put(7, b"a")), [-4])


class TooMany(unittest.TestCase):
    """A line is too short for so many, so they're loaded below the calls."""

    def pages_of(self, how_many):
        index = Index()
        index.restart(False, [((number // 256,), number) for number in range(how_many)])
        return [page.told for level in index.levels() for page in level]

    def test_65536_and_one_more(self):
        index = Index()
        self.assertEqual(load_below(index, False, self.pages_of(65537)), -5)
        self.assertEqual(index.size(), 0)
        self.assertEqual(load_below(index, False, self.pages_of(65536)), 65536)
        self.assertEqual(index.size(), 65536)
        self.assertEqual(index.put(1, ()), -5)


class Behind(unittest.TestCase):
    """The calls of stage 1 behind a load."""

    ENTRIES = [(5, b""), (0, b"a"), (9, b"a"), (0, b"a\x00"), (1, b"ab"), (0, b"b"), (3, b"\xff")]

    def test_each(self):
        pages = flat(model_levels(self.ENTRIES))
        answers = run(load(0, pages), count(), find(1, b"a"), range_(0, PAST, NONE, 1, 1, b"a"), nth(1),
                      rank(1, b"a"), begins(b"a"), put(0, b"a"), drop(0, b"a"), drop(0, b"a"), put(4, b"a"), count())
        self.assertEqual(answers, [[7], [7], [2, 0], [4, *told([(1, b"ab")])], [0, *told([(0, b"a")])], [2], [4], [-3],
                                   [0], [-3], [0], [7]])

    def test_open(self):
        self.assertEqual(run(load(0, PAGES), open_(1), count(), put(1, b"a"), put(2, b"a")),
                         [[6], [0], [0], [0], [-4]])

    def test_pages_behind_put_and_drop(self):
        line = [load(0, PAGES), sum_(), put(3, b"new"), drop(*ENTRIES[1])]
        left = [entry for entry in ENTRIES if entry != ENTRIES[1]] + [(3, b"new")]
        self.assertEqual(laid_out(*line), model_levels(left))
        self.assertEqual(laid_out(*line, drop(3, b"new"), put(*ENTRIES[1])), [LEAVES, [ROOT]])
