import unittest

from helper import (BYTES_OF, EMPTY, JUNK, MAX32, NEW, OLD, READ, RIGHT, WRONG, ask, cut, cut_off, load, plan, save,
                    some_content, whole, writes_to, written)

# A memory, the half that a plan goes into, its number, how many writes it has.
MEMORIES = {
    "new": (EMPTY + EMPTY, 0, 0, 256),
    "nothing read, byte 0 is 54H": ([0x54] * 512, 0, 0, 257),
    "nothing read, junk": (JUNK + JUNK, 0, 0, 256),
    "half 0 read, half 1 never written": (whole(8, OLD) + EMPTY, 1, 9, 256),
    "half 0 read, half 1 whole": (whole(8, OLD) + whole(7, NEW), 1, 9, 257),
    "half 1 read, half 0 never written": (EMPTY + whole(8, OLD), 0, 9, 256),
    "half 1 read, half 0 whole": (whole(7, NEW) + whole(8, OLD), 0, 9, 257),
    "half 1 read, the last number": (JUNK + whole(MAX32, OLD), 0, 0, 256),
}
TOLD = some_content(11)


def counts(size):
    return (0, 1, 2, 3, 100, size - 5, size - 4, size - 3, size - 2, size - 1, size, size + 1, 300, 511, 512, 513,
            65536, 65537, 2 ** 31, MAX32)


class CutTest(unittest.TestCase):
    def check(self, name, k, x):
        octets, half, number, size = MEMORIES[name]
        writes = writes_to(octets[256 * half:256 * half + 256], whole(number, TOLD))
        self.assertEqual(len(writes), 2 * size, name)
        behind = written(octets, half, cut_off(writes, k, x))
        self.assertEqual(ask(load(octets), cut(TOLD, k, x), BYTES_OF)[1:], [[0, half], [0, *behind]], (name, k, x))
        return behind

    def test_the_bytes_behind_it(self):
        for name, (octets, half, number, size) in MEMORIES.items():
            for k in counts(size):
                for x in (0, 1, 84, 255):
                    self.check(name, k, x)

    def test_x_is_the_byte_that_was_to_be_written(self):
        for name, (octets, half, number, size) in MEMORIES.items():
            writes = ask(load(octets), plan(TOLD))[1][2:]
            for k in (0, 1, 2, 3, 100, size - 2, size - 1):
                behind = self.check(name, k, writes[2 * k + 1])
                one_more = self.check(name, k + 1, behind[256 * half + writes[2 * k + 2]] if k + 1 < size else 7)
                self.assertEqual(behind, one_more, (name, k))

    def test_byte_by_byte(self):
        # On a new memory, each place told by hand: 4 to 255, then 1, 2, 3, then 0.
        new = whole(0, TOLD)
        for k, place in enumerate([*range(4, 256), 1, 2, 3, 0]):
            half = list(EMPTY)
            half[4:min(4 + k, 256)] = new[4:min(4 + k, 256)]
            half[1:1 + max(0, k - 252)] = new[1:1 + max(0, k - 252)]
            half[place] = 201
            self.assertEqual(ask(cut(TOLD, k, 201), BYTES_OF), [[0, 0], [0, *half, *EMPTY]], k)

    def test_byte_0_goes_first_where_it_is_54H(self):
        old, new = whole(7, NEW), whole(9, TOLD)
        for k, half in (
            (0, [201, *old[1:]]),
            (1, [0, *old[1:4], 201, *old[5:]]),
            (2, [0, *old[1:4], new[4], 201, *old[6:]]),
            (252, [0, *old[1:4], *new[4:255], 201]),
            (253, [0, 201, *old[2:4], *new[4:]]),
            (255, [0, *new[1:3], 201, *new[4:]]),
            (256, [201, *new[1:]]),
            (257, new),
        ):
            told = ask(load(whole(8, OLD) + old), cut(TOLD, k, 201), BYTES_OF)
            self.assertEqual(told[1:], [[0, 1], [0, *whole(8, OLD), *half]], k)

    def test_as_many_as_there_are_or_more_is_a_save(self):
        for name, (octets, half, number, size) in MEMORIES.items():
            saved = ask(load(octets), save(TOLD), BYTES_OF, READ)
            for k in (size, size + 1, 258, 512, 513, MAX32):
                for x in (0, 84, 255):
                    self.assertEqual(ask(load(octets), cut(TOLD, k, x), BYTES_OF, READ), saved, (name, k, x))
            self.assertEqual(saved[3], [0, half, *TOLD])

    def test_the_last_write_but_one(self):
        for name, (octets, half, number, size) in MEMORIES.items():
            for k, x in ((size - 2, 0x31), (size - 1, 0), (size - 1, 255)):
                self.assertNotIn(TOLD, [told[2:] for told in ask(load(octets), cut(TOLD, k, x), READ)], (name, k, x))

    def test_the_byte_that_makes_it_whole(self):
        for name, (octets, half, number, size) in MEMORIES.items():
            self.assertEqual(ask(load(octets), cut(TOLD, size - 1, 84), READ)[2], [0, half, *TOLD], name)

    def test_every_x(self):
        for x in range(256):
            self.check("half 1 read, half 0 whole", 0, x)
            self.check("half 1 read, half 0 whole", 1, x)
            self.check("new", 255, x)

    def test_every_right_content(self):
        for name, told in RIGHT.items():
            for k in (100, 255, 256):
                behind = written(EMPTY + EMPTY, 0, cut_off(writes_to(EMPTY, whole(0, told)), k, 9))
                self.assertEqual(ask(cut(told, k, 9), BYTES_OF), [[0, 0], [0, *behind]], name)

    def test_the_next_plan_goes_on_from_there(self):
        # Nothing whole was left, so the same half is written again, with the same number.
        told = ask(cut(OLD, 255, 0), READ, save(NEW), READ, BYTES_OF)
        self.assertEqual(told, [[0, 0], [-4], [0, 0], [0, 0, *NEW], [0, *whole(0, NEW), *EMPTY]])
        told = ask(save(OLD), cut(NEW, 100, 84), READ, save(NEW), READ, BYTES_OF)
        self.assertEqual(told[:3], [[0, 0], [0, 1], [0, 0, *OLD]])
        self.assertEqual(told[3:], [[0, 1], [0, 1, *NEW], [0, *whole(0, OLD), *whole(1, NEW)]])


class RefusedCutTest(unittest.TestCase):
    def test_content_that_is_not_right(self):
        for name, told in WRONG.items():
            for k in (0, 255, 256, MAX32):
                self.assertEqual(ask(cut(told, k, 84)), [[-8]], name)

    def test_just_inside_it_is_not_refused(self):
        for name, told in RIGHT.items():
            self.assertEqual(ask(cut(told, 0, 0)), [[0, 0]], name)

    def test_all_is_as_it_was(self):
        for octets in (EMPTY + EMPTY, JUNK + whole(4, OLD), whole(4, OLD) + whole(3, NEW)):
            before = ask(load(octets), BYTES_OF, READ, plan(TOLD))[1:]
            for name, told in WRONG.items():
                behind = ask(load(octets), cut(told, 0, 1), cut(told, 300, 1), BYTES_OF, READ, plan(TOLD))[1:]
                self.assertEqual(behind, [[-8], [-8], *before], name)


if __name__ == "__main__":
    unittest.main()
