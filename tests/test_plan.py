import unittest

from helper import (EMPTY, JUNK, MAX32, NEW, OLD, READ, RIGHT, ask, load, plan, save, some_content, whole,
                    writes_to)
from halfwhole.memory import Memory


class PlanTest(unittest.TestCase):
    def check(self, octets, half, number, told=NEW):
        answer = ask(load(octets), plan(told))[1]
        old = octets[half * 256:half * 256 + 256]
        self.assertEqual(answer, [0, half, *writes_to(old, whole(number, told))])
        return (len(answer) - 2) // 2

    def test_a_new_memory(self):
        for name, told in RIGHT.items():
            with self.subTest(name=name):
                self.assertEqual(ask(plan(told)), [[0, 0, *writes_to(EMPTY, whole(0, told))]])

    def test_nothing_read(self):
        self.assertEqual(self.check([0] * 512, 0, 0), 256)
        self.assertEqual(self.check([255] * 512, 0, 0), 256)
        self.assertEqual(self.check([0x54] * 512, 0, 0), 257)
        self.assertEqual(self.check([0] + whole(8, OLD)[1:] + EMPTY, 0, 0), 256)
        self.assertEqual(self.check(whole(8, OLD)[:255] + [0] + EMPTY, 0, 0), 257)

    def test_half_0_is_read(self):
        self.assertEqual(self.check(whole(8, OLD) + EMPTY, 1, 9), 256)
        self.assertEqual(self.check(whole(8, OLD) + JUNK, 1, 9), 256)
        self.assertEqual(self.check(whole(8, OLD) + [0x54] + JUNK[1:], 1, 9), 257)
        self.assertEqual(self.check(whole(8, OLD) + whole(7, NEW), 1, 9), 257)
        self.assertEqual(self.check(whole(8, OLD) + whole(8, NEW), 1, 9), 257)

    def test_half_1_is_read(self):
        self.assertEqual(self.check(EMPTY + whole(8, OLD), 0, 9), 256)
        self.assertEqual(self.check(JUNK + whole(8, OLD), 0, 9), 256)
        self.assertEqual(self.check([0x54] + JUNK[1:] + whole(8, OLD), 0, 9), 257)
        self.assertEqual(self.check(whole(7, NEW) + whole(8, OLD), 0, 9), 257)

    def test_byte_0_alone_tells_how_many(self):
        for octet in range(256):
            writes = self.check(whole(8, OLD) + [octet] + EMPTY[1:], 1, 9)
            self.assertEqual(writes, 257 if octet == 0x54 else 256)

    def test_numbers(self):
        for number in (0, 1, 255, 256, 65535, 65536, 0x00FFFFFF, 0xFFFFFFFE):
            self.check(whole(number, OLD) + EMPTY, 1, number + 1)
            self.check(EMPTY + whole(number, OLD), 0, number + 1)

    def test_number_from_the_last_to_0(self):
        self.check(whole(MAX32, OLD) + EMPTY, 1, 0)
        self.check(EMPTY + whole(MAX32, OLD), 0, 0)
        self.check(whole(MAX32, OLD) + whole(0, NEW), 0, 1)

    def test_many_contents(self):
        for seed in range(50):
            self.check(whole(seed, OLD) + JUNK, 1, seed + 1, some_content(seed))

    def test_the_memory_stays(self):
        told = ask(READ, plan(NEW), READ, plan(NEW), save(OLD), READ, plan(NEW), READ, plan(NEW))
        self.assertEqual(told[0:2], told[2:4])
        self.assertEqual(told[5:7], told[7:9])
        self.assertEqual(told[2], [-4])
        self.assertEqual(told[7], [0, 0, *OLD])

    def test_every_byte_stays(self):
        for octets in (EMPTY + JUNK, whole(8, OLD) + JUNK, whole(8, OLD) + whole(9, OLD)):
            memory = Memory()
            memory.load(octets)
            memory.plan(NEW)
            self.assertEqual(memory.octets, octets)


if __name__ == "__main__":
    unittest.main()
