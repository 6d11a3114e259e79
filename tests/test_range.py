import unittest

from tests.helper import AT, MOST_ROW, NONE, PAST, TOP, last, lets_in, open_, put, puts, range_, run, told, whole

ENTRIES = [(3, b""), (0, b"a"), (5, b"a"), (MOST_ROW, b"a"), (1, b"a\x00"), (1, b"ab"), (2, b"b"), (0, b"d"),
           (9, b"d"), (4, b"\xff\xff")]

KEYS = [b"", b"\x00", b"a", b"a\x00", b"a\x00\x00", b"aa", b"ab", b"b", b"c", b"d", b"e", b"\xff", b"\xff\xff",
        b"\xff\xff\x00", b"\xff" * 1000]


class Range(unittest.TestCase):
    def expect(self, entries, *calls):
        """The last call tells just these entries, and counts them."""
        self.assertEqual(last(*calls), [len(entries)] + told(entries))

    def test_all_of_them(self):
        self.expect(ENTRIES, *puts(reversed(ENTRIES)), range_())

    def test_from_the_last_to_the_first(self):
        self.expect(ENTRIES[::-1], *puts(ENTRIES), range_(down=1))

    def test_of_an_empty_index(self):
        for down in (0, 1):
            for lo in (NONE, AT, PAST):
                for hi in (NONE, AT, PAST):
                    self.assertEqual(run(range_(down, lo, hi)), [[0]])

    def test_between_two_keys(self):
        bounds = {"lokey": b"a", "hikey": b"b"}
        self.expect(ENTRIES[1:7], *puts(ENTRIES), range_(0, AT, AT, **bounds))
        self.expect(ENTRIES[4:7], *puts(ENTRIES), range_(0, PAST, AT, **bounds))
        self.expect(ENTRIES[1:6], *puts(ENTRIES), range_(0, AT, PAST, **bounds))
        self.expect(ENTRIES[4:6], *puts(ENTRIES), range_(0, PAST, PAST, **bounds))
        self.expect(ENTRIES[5:3:-1], *puts(ENTRIES), range_(1, PAST, PAST, **bounds))

    def test_one_bound_alone(self):
        self.expect(ENTRIES[1:], *puts(ENTRIES), range_(lo=AT, lokey=b"a"))
        self.expect(ENTRIES[4:], *puts(ENTRIES), range_(lo=PAST, lokey=b"a"))
        self.expect(ENTRIES[:4], *puts(ENTRIES), range_(hi=AT, hikey=b"a"))
        self.expect(ENTRIES[:1], *puts(ENTRIES), range_(hi=PAST, hikey=b"a"))

    def test_every_pair_of_bounds_up_and_down(self):
        for lokey in KEYS:
            for hikey in KEYS:
                self.every_pair(lokey, hikey)

    def every_pair(self, lokey, hikey):
        for lo in (NONE, AT, PAST):
            for hi in (NONE, AT, PAST):
                keys = {"lokey": lokey if lo else b"", "hikey": hikey if hi else b""}
                inside = [entry for entry in ENTRIES if lets_in(lo, lokey, hi, hikey, entry[1])]
                self.expect(inside, *puts(ENTRIES), range_(0, lo, hi, **keys))
                self.expect(inside[::-1], *puts(ENTRIES), range_(1, lo, hi, **keys))

    def test_nothing_lies_between(self):
        for lo, hi, lokey, hikey in ((AT, AT, b"b", b"a"), (PAST, PAST, b"d", b"a"), (PAST, PAST, b"a", b"a"),
                                     (AT, PAST, b"a", b"a"), (PAST, AT, b"a", b"a"), (AT, AT, b"c", b"c"),
                                     (PAST, PAST, b"b", b"d"), (AT, AT, b"\xff\xff\x00", b"\xff" * 1000)):
            for down in (0, 1):
                self.assertEqual(last(*puts(ENTRIES), range_(down, lo, hi, 0, TOP, lokey, hikey)), [0])

    def test_at_and_past_the_empty_key(self):
        self.expect(ENTRIES, *puts(ENTRIES), range_(lo=AT))
        self.expect(ENTRIES[1:], *puts(ENTRIES), range_(lo=PAST))
        self.expect(ENTRIES[:1], *puts(ENTRIES), range_(hi=AT))
        self.expect([], *puts(ENTRIES), range_(hi=PAST))

    def test_from_and_most(self):
        numbers = (0, 1, 2, 5, 6, 7, 8, 2 ** 32, 2 ** 63, TOP)
        inside = ENTRIES[1:7]
        for skip in numbers:
            for most in numbers:
                for down in (0, 1):
                    ordered = inside[::-1] if down else inside
                    shown = ordered[min(skip, 6):][:min(most, 6)]
                    call = range_(down, AT, AT, skip, most, b"a", b"b")
                    self.assertEqual(last(*puts(ENTRIES), call), [6] + told(shown))

    def test_from_and_most_without_bounds(self):
        self.assertEqual(last(*puts(ENTRIES), range_(0, skip=2, most=3)), [10] + told(ENTRIES[2:5]))
        self.assertEqual(last(*puts(ENTRIES), range_(1, skip=2, most=3)), [10] + told(ENTRIES[7:4:-1]))
        self.assertEqual(last(*puts(ENTRIES), range_(0, skip=9, most=3)), [10] + told(ENTRIES[9:]))
        self.assertEqual(last(*puts(ENTRIES), range_(0, skip=10, most=3)), [10])

    def test_an_entry_is_told_by_its_row_its_size_and_its_bytes(self):
        long_key = [7] * 1000
        self.assertEqual(last(put(MOST_ROW, []), put(0, long_key), range_()),
                         [2, MOST_ROW, 0, 0, 1000, *long_key])

    def test_of_a_unique_one(self):
        self.expect([(1, b"a"), (2, b"b")], open_(1), put(2, b"b"), put(1, b"a"), put(0, b"b"), range_())

    def test_refuses_down_above_1(self):
        for down in (2, 3, 2 ** 32, 2 ** 32 + 1, TOP):
            self.assertEqual(last(*puts(ENTRIES), range_(down)), [-2])

    def test_refuses_keys_of_more_than_1000_bytes(self):
        for size in (1001, 1100):
            key = b"a" * size
            for bound in (AT, PAST):
                self.assertEqual(last(*puts(ENTRIES), range_(lo=bound, lokey=key)), [-2])
                self.assertEqual(last(*puts(ENTRIES), range_(hi=bound, hikey=key)), [-2])
                self.assertEqual(last(range_(2, bound, bound, 0, 0, key, key)), [-2])

    def test_keys_of_1000_bytes(self):
        key = b"k" * 1000
        filled = puts([(1, key[:-1]), (2, key), (3, key[:-1] + b"l")])
        self.expect([(2, key)], *filled, range_(0, AT, AT, lokey=key, hikey=key))
        self.expect([(3, key[:-1] + b"l")], *filled, range_(0, PAST, NONE, lokey=key))
        self.expect([(1, key[:-1])], *filled, range_(0, NONE, PAST, hikey=key))

    def test_all_is_as_it_was(self):
        self.assertEqual(whole(*puts(ENTRIES), range_(1, AT, PAST, 1, 2, b"a", b"d"), range_(2)), ENTRIES)
