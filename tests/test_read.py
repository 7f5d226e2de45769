import random
import unittest

from helper import (EMPTY, MARK, MAX32, READ, RIGHT, WRONG, ask, content, crc, is_right, packed, read_of, save,
                    sealed, some_content, whole)

FIRST = content(audits=[1] * 8, levels=[0x100, 0x200])
SECOND = content(audits=[2] * 8, setup=(9, 9, 0, 1, 1, 100000))
PADDING = [69, 70, 71, 76, 77, 78, 79] + [112 + 16 * entry + place for entry in range(8) for place in range(11, 16)]


def patched(place, octets, told=None):
    """A content's 240 bytes with others at a place."""
    plain = bytearray(packed(told or content()))
    plain[place:place + len(octets)] = octets
    return bytes(plain)


class ReadBackTest(unittest.TestCase):
    def test_a_new_memory(self):
        self.assertEqual(ask(READ), [[-4]])
        self.assertEqual(ask(READ, READ), [[-4], [-4]])

    def test_what_was_saved(self):
        for name, told in RIGHT.items():
            with self.subTest(name=name):
                self.assertEqual(ask(save(told), READ), [[0, 0], [0, 0, *told]])

    def test_none_to_four_levels(self):
        for count in range(5):
            told = content(levels=[0x10, 0x20, 0x30, 0x40][:count])
            self.assertEqual(ask(save(told), READ)[1], [0, 0, *told])
            self.assertEqual(len(told), 47 + count)

    def test_what_was_saved_of_many(self):
        for seed in range(100):
            told = some_content(seed)
            self.assertEqual(ask(save(told), READ), [[0, 0], [0, 0, *told]])
            self.assertEqual(read_of(EMPTY + whole(seed, told)), [0, 1, *told])


class WhichHalfTest(unittest.TestCase):
    def check(self, first, second, half):
        told = read_of(whole(first, FIRST) + whole(second, SECOND))
        self.assertEqual(told, [0, half, *(SECOND if half else FIRST)], (first, second))

    def test_half_1_is_one_on(self):
        for number in (0, 1, 255, 256, 65535, 0x7FFFFFFF, 0xFFFFFFFE):
            self.check(number, number + 1, 1)

    def test_half_1_is_one_on_by_2_to_the_32(self):
        self.check(MAX32, 0, 1)

    def test_half_0_is_one_on(self):
        for number in (0, 1, 255, 65535, 0x7FFFFFFF, 0xFFFFFFFE):
            self.check(number + 1, number, 0)
        self.check(0, MAX32, 0)

    def test_neither_is_one_on(self):
        for first, second in ((0, 0), (7, 7), (0, 2), (2, 0), (5, 1000), (1000, 5), (MAX32, MAX32), (MAX32, 1),
                              (1, MAX32), (0, 256), (0, 257), (0, 0x01000000)):
            self.check(first, second, 0)

    def test_one_whole_half(self):
        for number in (0, 1, 77, MAX32):
            for other in (EMPTY, [255] * 256, [0] + whole(number + 1 & MAX32, SECOND)[1:]):
                self.assertEqual(read_of(whole(number, FIRST) + other), [0, 0, *FIRST])
                self.assertEqual(read_of(other + whole(number, FIRST)), [0, 1, *FIRST])

    def test_none(self):
        for octet in (0, 1, 0x54, 255):
            self.assertEqual(read_of([octet] * 512), [-4])


class ChangedByteTest(unittest.TestCase):
    def test_each_byte_of_a_lone_half(self):
        plain = whole(3, FIRST)
        for place in range(256):
            for change in (1, 0x80, 0xFF):
                half = list(plain)
                half[place] ^= change
                self.assertEqual(read_of(half + EMPTY), [-4], place)
                self.assertEqual(read_of(EMPTY + half), [-4], place)

    def test_the_other_half_is_read_then(self):
        older, newer = whole(3, FIRST), whole(4, SECOND)
        for place in range(256):
            half = list(newer)
            half[place] ^= 1
            self.assertEqual(read_of(older + half), [0, 0, *FIRST], place)
            self.assertEqual(read_of(half + older), [0, 1, *FIRST], place)

    def test_four_first_bytes_under_a_right_sum(self):
        for place in range(4):
            half = whole(3, FIRST)
            half[place] ^= 0x20
            total = crc(half[:248])
            half[248:] = [*total.to_bytes(4, "little"), *(total ^ MAX32).to_bytes(4, "little")]
            self.assertEqual(read_of(half + EMPTY), [-4], place)

    def test_sum_and_turned_sum_both(self):
        half = whole(3, FIRST)
        self.assertEqual(read_of(half[:248] + half[252:] + half[248:252] + EMPTY), [-4])
        self.assertEqual(read_of(half[:248] + half[248:252] * 2 + EMPTY), [-4])
        wrong = crc(half[:248]) ^ 1
        ends = [*wrong.to_bytes(4, "little"), *(wrong ^ MAX32).to_bytes(4, "little")]
        self.assertEqual(read_of(half[:248] + ends + EMPTY), [-4])


class RightSumWrongContentTest(unittest.TestCase):
    def check_read(self, octets):
        half = sealed(6, octets)
        return read_of(half + EMPTY), read_of(EMPTY + half)

    def refuse(self, octets, name):
        self.assertEqual(self.check_read(octets), ([-4], [-4]), name)

    def test_the_mark_is_as_told(self):
        self.assertEqual(list(MARK), [0x54, 0x4C, 0x4B, 0x31])

    def test_inside_every_edge(self):
        for name, told in RIGHT.items():
            with self.subTest(name=name):
                self.assertEqual(self.check_read(packed(told)), ([0, 0, *told], [0, 1, *told]))

    def test_bounds_of_the_setup(self):
        for place, low, high in ((64, 1, 9), (65, 1, 9), (66, 0, 9), (67, 1, 4), (68, 0, 1)):
            for octet in (*range(17), 127, 128, 254, 255):
                octets = patched(place, [octet])
                if low <= octet <= high:
                    self.assertEqual(self.check_read(octets)[0][:2], [0, 0], (place, octet))
                else:
                    self.refuse(octets, (place, octet))

    def test_bound_of_the_ticks(self):
        for ticks in (100001, 2 ** 17, 2 ** 24, 2 ** 31, MAX32):
            self.refuse(patched(72, ticks.to_bytes(4, "little")), ticks)

    def test_wrong_levels_scores_and_letters(self):
        for name, told in WRONG.items():
            if max(told[8:13]) > 255:
                continue
            # A level of 0 at the end is none at all in bytes, and so is right there.
            if 0 not in told[15:15 + told[14]]:
                self.refuse(packed(told), name)

    def test_bytes_that_have_to_be_0(self):
        for place in PADDING:
            for octet in (1, 0x80, 255):
                self.refuse(patched(place, [octet]), place)

    def test_a_level_behind_a_level_of_0(self):
        for levels in ([0, 5, 0, 0], [0, 0, 5, 0], [0, 0, 0, 5], [5, 0, 6, 0], [5, 0, 0, 6], [5, 6, 0, 7],
                       [0, 5, 6, 7], [5, 0, 0, 4], [0, 1, 2, 3], [5, 0, 6, 7], [1, 0, 0, 2 ** 63]):
            octets = b"".join(level.to_bytes(8, "little") for level in levels)
            self.refuse(patched(80, octets), levels)


class AnyBytesTest(unittest.TestCase):
    def check(self, octets):
        told = read_of(octets)
        if told != [-4]:
            self.assertEqual(told[0], 0)
            self.assertIn(told[1], (0, 1))
            self.assertTrue(is_right(told[2:]), told)
        return told

    def test_any_bytes(self):
        source = random.Random(1)
        for turn in range(200):
            self.check([source.randrange(256) for place in range(512)])

    def test_any_240_bytes_under_a_right_sum(self):
        source = random.Random(2)
        for turn in range(200):
            self.check(sealed(turn, source.randbytes(240)) + EMPTY)

    def test_a_few_bytes_changed_under_a_right_sum(self):
        source = random.Random(3)
        found = {True: 0, False: 0}
        for turn in range(600):
            octets = bytearray(packed(some_content(turn)))
            for change in range(source.randint(1, 2)):
                octets[source.randrange(64, 240)] = source.choice((0, 1, 2, 9, 10, 32, 65, 90, 91, 255))
            told = self.check(sealed(turn, bytes(octets)) + EMPTY)
            found[told == [-4]] += 1
            if told != [-4]:
                self.assertEqual(packed(told[2:]), bytes(octets))
        self.assertTrue(min(found.values()) > 20, found)


if __name__ == "__main__":
    unittest.main()
