import unittest

from tests.helper import begins, build, last, open_, put, puts, run, whole

ENTRIES = [(8, b""), (1, b"a"), (2, b"a"), (1, b"a\x00"), (1, b"ab"), (3, b"ab\xff"), (1, b"ab\xff\xff"),
           (1, b"ac"), (1, b"b"), (1, b"\xff"), (2, b"\xff\xfe"), (1, b"\xff\xff"), (2, b"\xff\xff"),
           (1, b"\xff\xff\xff\x00")]


class Begins(unittest.TestCase):
    def expect(self, key, how_many):
        self.assertEqual(last(*puts(reversed(ENTRIES)), begins(key)), [how_many])

    def test_every_key_begins_with_the_empty_one(self):
        self.expect(b"", len(ENTRIES))
        self.assertEqual(run(begins(b"")), [[0]])

    def test_a_key_of_the_index_begins_itself(self):
        self.expect(b"ac", 1)
        self.expect(b"b", 1)
        self.expect(b"a", 7)
        self.expect(b"ab", 3)

    def test_a_key_that_is_not_there_but_begins_others(self):
        self.expect(b"\xff\xff\xff", 1)

    def test_none_begins_so(self):
        for key in (b"\x00", b"`", b"aa", b"ab\x00", b"ad", b"abc", b"a\x00\x00", b"c", b"\xfe", b"\xff\x00",
                    b"\xff\xff\x00", b"\xff\xff\xff\xff", b"\xff\xff\xff\x00\x00", b"\xff" * 1000):
            self.expect(key, 0)

    def test_bytes_of_255_at_its_end(self):
        self.expect(b"\xff", 5)
        self.expect(b"\xff\xff", 3)
        self.expect(b"ab\xff", 2)
        self.expect(b"ab\xff\xff", 1)
        self.expect(b"ab\xff\xff\xff", 0)

    def test_each_beginning_of_each_key(self):
        for _, key in ENTRIES:
            for size in range(len(key) + 1):
                self.expect(key[:size], sum(other.startswith(key[:size]) for _, other in ENTRIES))

    def test_edges_of_keys(self):
        for byte in (b"z", b"\xff", b"\x00"):
            key = byte * 1000
            self.assertEqual(run(put(1, key), put(2, key), put(3, key[:999]), begins(key), begins(key[:999]))[3:],
                             [[2], [3]])
            self.assertEqual(last(put(1, key), begins(byte * 1001)), [-2])
            self.assertEqual(last(put(1, key), begins(byte * 1100)), [-2])

    def test_in_a_unique_one_and_behind_a_build(self):
        self.assertEqual(last(open_(1), put(1, b"a"), put(2, b"a"), put(2, b"ab"), begins(b"a")), [2])
        self.assertEqual(last(build(0, ENTRIES), begins(b"ab")), [3])

    def test_all_is_as_it_was(self):
        self.assertEqual(whole(*puts(ENTRIES), begins(b"a"), begins(b"a" * 1001)), ENTRIES)
