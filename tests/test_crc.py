import unittest

from pageindex.byteorder import low_first, number_of
from pageindex.crc import STEPS, crc_of
from tests.helper import POLYNOMIAL, crc32c


class Crc(unittest.TestCase):
    def test_known_sums(self):
        for data, crc in ((b"123456789", 0xE3069283), (b"", 0), (b"a", 0xC1D04330), (b"\x00" * 32, 0x8A9136AA),
                          (b"\xff" * 32, 0x62A8AB43), (bytes(range(32)), 0x46DD794E),
                          (bytes(reversed(range(32))), 0x113FDB5C)):
            self.assertEqual(crc_of(list(data)), crc)
            self.assertEqual(crc32c(data), crc)

    def test_every_byte(self):
        self.assertEqual(POLYNOMIAL, 0x82F63B78)
        self.assertEqual(len(STEPS), 256)
        for byte in range(256):
            self.assertEqual(crc_of([byte]), crc32c(bytes([byte])))
            self.assertEqual(crc_of([7, byte, byte]), crc32c(bytes([7, byte, byte])))


class NumbersInBytes(unittest.TestCase):
    def test_the_lowest_byte_stands_first(self):
        self.assertEqual(low_first(0x01020304, 4), [4, 3, 2, 1])
        self.assertEqual(low_first(258, 2), [2, 1])
        self.assertEqual(low_first(0, 4), [0, 0, 0, 0])
        self.assertEqual(low_first(2 ** 32 - 1, 4), [255] * 4)

    def test_there_and_back(self):
        for number in (0, 1, 255, 256, 65535, 65536, 2 ** 31, 2 ** 32 - 1):
            self.assertEqual(number_of(low_first(number, 4)), number)
