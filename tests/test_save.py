import unittest

from helper import (EMPTY, JUNK, MAX32, NEW, OLD, READ, RIGHT, ask, load, plan, save, some_content, whole,
                    writes_to)
from halfwhole.memory import Memory


class SaveTest(unittest.TestCase):
    def test_the_half(self):
        self.assertEqual(ask(save(OLD)), [[0, 0]])
        self.assertEqual(ask(load(EMPTY + whole(8, OLD)), save(NEW)), [[0], [0, 0]])
        self.assertEqual(ask(load(whole(8, OLD) + EMPTY), save(NEW)), [[0], [0, 1]])

    def test_by_turns(self):
        contents = [some_content(seed) for seed in range(40)]
        calls = [call for told in contents for call in (save(told), READ)]
        answers = [answer for turn, told in enumerate(contents) for answer in ([0, turn % 2], [0, turn % 2, *told])]
        self.assertEqual(ask(*calls), answers)

    def check_bytes(self, octets, half, number):
        memory = Memory()
        memory.load(octets)
        self.assertEqual(memory.save(NEW), [0, half])
        halves = [octets[:256], octets[256:]]
        halves[half] = whole(number, NEW)
        self.assertEqual(memory.octets, halves[0] + halves[1])
        self.assertEqual(memory.read(), [0, half, *NEW])

    def test_the_other_half_is_not_touched(self):
        self.check_bytes([0] * 512, 0, 0)
        self.check_bytes(EMPTY + JUNK, 0, 0)
        self.check_bytes([0x54] * 512, 0, 0)
        self.check_bytes(whole(8, OLD) + JUNK, 1, 9)
        self.check_bytes(JUNK + whole(8, OLD), 0, 9)
        self.check_bytes(whole(8, OLD) + whole(9, OLD), 0, 10)
        self.check_bytes(whole(9, OLD) + whole(8, OLD), 1, 10)
        self.check_bytes(whole(8, OLD) + whole(8, OLD), 1, 9)
        self.check_bytes(whole(8, OLD) + whole(100, OLD), 1, 9)
        self.check_bytes(whole(MAX32, OLD) + EMPTY, 1, 0)
        self.check_bytes(whole(MAX32, OLD) + whole(0, OLD), 0, 1)
        self.check_bytes(EMPTY + whole(MAX32, OLD), 0, 0)

    def test_the_half_read_before_is_not_touched(self):
        # If the new half then breaks, what stood before is read again.
        memory = Memory()
        memory.save(OLD)
        memory.save(NEW)
        memory.octets[300] ^= 1
        self.assertEqual(memory.read(), [0, 0, *OLD])

    def test_the_number_counts_on(self):
        for number in (0, 255, 65535, 0xFFFFFFFD):
            told = ask(load(whole(number, OLD) + EMPTY), save(NEW), save(OLD), plan(NEW))
            new = whole(number + 3 & MAX32, NEW)
            self.assertEqual(told, [[0], [0, 1], [0, 0], [0, 1, *writes_to(whole(0, OLD), new)]])

    def test_over_the_last_number(self):
        for start in (0xFFFFFFFD, 0xFFFFFFFE, 0xFFFFFFFF):
            for half in (0, 1):
                halves = [EMPTY, EMPTY]
                halves[half] = whole(start, OLD)
                contents = [some_content(seed) for seed in range(6)]
                calls = [load(halves[0] + halves[1])]
                answers = [[0]]
                for turn, told in enumerate(contents):
                    at = (half + turn + 1) % 2
                    calls += [save(told), READ]
                    answers += [[0, at], [0, at, *told]]
                self.assertEqual(ask(*calls), answers)

    def test_what_was_planned_is_done(self):
        for octets in ([0] * 512, JUNK + JUNK, whole(4, OLD) + JUNK, JUNK + whole(4, OLD)):
            for told in RIGHT.values():
                memory = Memory()
                memory.load(octets)
                planned = memory.plan(told)
                after = list(octets)
                for place, octet in zip(planned[2::2], planned[3::2]):
                    after[planned[1] * 256 + place] = octet
                self.assertEqual(memory.save(told), planned[:2])
                self.assertEqual(memory.octets, after)


if __name__ == "__main__":
    unittest.main()
