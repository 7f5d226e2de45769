import unittest

from helper import READ, ask, content, load, plan, save, whole
from halfwhole.memory import Memory


class LoadTest(unittest.TestCase):
    def test_512_bytes(self):
        self.assertEqual(ask(load([0] * 512)), [[0]])
        self.assertEqual(ask(load([255] * 512)), [[0]])
        self.assertEqual(ask(load([n % 256 for n in range(512)])), [[0]])

    def test_fewer_more_and_none(self):
        for size in (0, 1, 255, 256, 257, 511, 513, 768, 1000):
            with self.subTest(size=size):
                self.assertEqual(ask(load([7] * size)), [[-1]])

    def test_the_memory_has_these_bytes(self):
        memory = Memory()
        octets = [(n * 7) % 256 for n in range(512)]
        memory.load(octets)
        self.assertEqual(memory.octets, octets)

    def test_a_later_load_stands(self):
        first, second = content(audits=[1] * 8), content(audits=[2] * 8)
        told = ask(load(whole(0, first) + [0] * 256), READ, load([0] * 256 + whole(0, second)), READ,
                   load([0] * 512), READ)
        self.assertEqual(told, [[0], [0, 0, *first], [0], [0, 1, *second], [0], [-4]])

    def test_refused_leaves_the_memory(self):
        saved = content(levels=[1, 2])
        for size in (0, 1, 511, 513, 1000):
            with self.subTest(size=size):
                told = ask(save(saved), READ, plan(saved), load([0] * size), READ, plan(saved))
                self.assertEqual(told[3], [-1])
                self.assertEqual(told[4:], told[1:3])

    def test_refused_leaves_every_byte(self):
        octets = [(n * 11) % 256 for n in range(512)]
        for size in (0, 1, 511, 513, 1000):
            memory = Memory()
            memory.load(octets)
            self.assertEqual(memory.load([9] * size), [-1])
            self.assertEqual(memory.octets, octets)


if __name__ == "__main__":
    unittest.main()
