import random
import unittest

from helper import BYTES_OF, JUNK, OLD, READ, ask, crc, load, save, sum_of, whole


class CrcTest(unittest.TestCase):
    def check(self, octets, total):
        self.assertEqual(ask(sum_of(octets)), [[0, total]])

    def test_of_no_bytes(self):
        self.check([], 0)

    def test_of_the_nine_digits(self):
        self.check(range(49, 58), 0xE3069283)

    def test_sums_that_are_known(self):
        self.check([0] * 32, 0x8A9136AA)
        self.check([255] * 32, 0x62A8AB43)
        self.check(range(32), 0x46DD794E)
        self.check(range(31, -1, -1), 0x113FDB5C)
        self.check(b"a", 0xC1D04330)

    def test_each_byte_alone(self):
        for octet in range(256):
            self.check([octet], crc([octet]))

    def test_many_sizes(self):
        source = random.Random(4)
        for size in (*range(1, 20), 247, 248, 249, 255, 256, 257, 1000, 1001):
            octets = source.randbytes(size)
            self.check(octets, crc(octets))

    def test_of_10000_bytes(self):
        octets = [(n * n + n // 7) % 256 for n in range(10000)]
        self.check(octets, crc(octets))
        self.check([0] * 10000, crc([0] * 10000))
        self.check([255] * 10000, crc([255] * 10000))

    def test_zeros_count(self):
        sums = [told[1] for told in ask(*[sum_of([0] * count) for count in range(20)])]
        self.assertEqual(len(set(sums)), 20)

    def test_a_half_ends_with_it(self):
        octets = ask(save(OLD), BYTES_OF)[1][1:]
        total = ask(sum_of(octets[:248]))[0][1]
        self.assertEqual(octets[248:256], [*total.to_bytes(4, "little"), *(total ^ 0xFFFFFFFF).to_bytes(4, "little")])

    def test_it_has_nothing_to_do_with_the_memory(self):
        octets = whole(3, OLD) + JUNK
        told = ask(sum_of([1, 2]), load(octets), sum_of([1, 2]), READ, BYTES_OF, sum_of([1, 2]))
        self.assertEqual(told[::2], [[0, crc([1, 2])], [0, crc([1, 2])], [0, *octets]])
        self.assertEqual(told[5], told[0])
        self.assertEqual(told[3], [0, 0, *OLD])

    def test_one_behind_another_begins_anew(self):
        self.assertEqual(ask(sum_of(b"1234"), sum_of(b"56789"), sum_of(b"123456789")),
                         [[0, crc(b"1234")], [0, crc(b"56789")], [0, 0xE3069283]])


if __name__ == "__main__":
    unittest.main()
