import unittest

from helper import READ, RIGHT, WRONG, ask, content, load, plan, save, whole
from halfwhole.memory import Memory

SAVED = content(audits=[5] * 8, levels=[0x10])


class RefusedTest(unittest.TestCase):
    def test_content_that_is_not_right(self):
        for name, told in WRONG.items():
            with self.subTest(name=name):
                self.assertEqual(ask(plan(told), save(told)), [[-8], [-8]])

    def test_just_inside_it_is_not_refused(self):
        for name, told in RIGHT.items():
            with self.subTest(name=name):
                self.assertEqual([answer[:2] for answer in ask(plan(told), save(told))], [[0, 0], [0, 0]])

    def test_each_edge_is_told_of(self):
        for word in ("coins", "balls", "warnings", "players", "ticks", "levels", "score", "letter"):
            self.assertTrue(any(word in name for name in WRONG), word)
            self.assertTrue(any(word in name for name in RIGHT), word)

    def test_every_letter_is_right(self):
        for letter in (32, *range(65, 91)):
            told = content(best=[(0x5, letter, letter, letter)] * 8)
            self.assertEqual(ask(save(told), READ)[1], [0, 0, *told])

    def test_no_other_byte_is_a_letter(self):
        for octet in range(256):
            if octet != 32 and not 65 <= octet <= 90:
                self.assertEqual(ask(save(content(best=[(0x5, 65, octet, 65)] * 8))), [[-8]])
                self.assertEqual(ask(save(content(best=[(0x5, 65, 65, octet)] * 8))), [[-8]])

    def test_all_is_as_it_was_for_the_calls_behind(self):
        for name, told in WRONG.items():
            with self.subTest(name=name):
                answers = ask(save(SAVED), READ, plan(SAVED), save(told), plan(told), READ, plan(SAVED))
                self.assertEqual(answers[3:5], [[-8], [-8]])
                self.assertEqual(answers[5:], answers[1:3])
                self.assertEqual(ask(save(told), READ), [[-8], [-4]])

    def test_every_byte_is_as_it_was(self):
        octets = whole(4, SAVED) + [(n * 3) % 256 for n in range(256)]
        memory = Memory()
        memory.load(octets)
        for told in WRONG.values():
            self.assertEqual(memory.plan(told), [-8])
            self.assertEqual(memory.save(told), [-8])
            self.assertEqual(memory.octets, octets)

    def test_right_ones_go_on_behind_a_refusal(self):
        wrong = next(iter(WRONG.values()))
        told = ask(load(whole(4, SAVED) + [0] * 256), save(wrong), save(SAVED), load([1]), READ)
        self.assertEqual(told, [[0], [-8], [0, 1], [-1], [0, 1, *SAVED]])


if __name__ == "__main__":
    unittest.main()
