import unittest

from helper import (BYTES_OF, EMPTY, JUNK, NEW, OLD, READ, WRONG, ask, cut, load, plan, save, sum_of, whole)

NOT_RIGHT = WRONG["coins 0"]


class BytesTest(unittest.TestCase):
    def test_a_new_memory(self):
        self.assertEqual(ask(BYTES_OF), [[0] + [0] * 512])

    def test_what_was_loaded(self):
        for octets in (JUNK + EMPTY, EMPTY + JUNK, [255] * 512, [(n * 7) % 256 for n in range(512)]):
            self.assertEqual(ask(load(octets), BYTES_OF), [[0], [0, *octets]])

    def test_behind_saves(self):
        told = ask(save(OLD), BYTES_OF, save(NEW), BYTES_OF, save(NEW), BYTES_OF)
        self.assertEqual(told[1::2], [
            [0, *whole(0, OLD), *EMPTY],
            [0, *whole(0, OLD), *whole(1, NEW)],
            [0, *whole(2, NEW), *whole(1, NEW)],
        ])

    def test_behind_a_save_over_junk(self):
        self.assertEqual(ask(load(JUNK + JUNK), save(OLD), BYTES_OF)[2], [0, *whole(0, OLD), *JUNK])

    def test_behind_a_cut(self):
        new = whole(0, OLD)
        self.assertEqual(ask(cut(OLD, 0, 9), BYTES_OF)[1], [0, *EMPTY[:4], 9, *EMPTY[5:], *EMPTY])
        self.assertEqual(ask(cut(OLD, 252, 9), BYTES_OF)[1], [0, 0, 9, 0, 0, *new[4:], *EMPTY])
        self.assertEqual(ask(cut(OLD, 255, 9), BYTES_OF)[1], [0, 9, *new[1:], *EMPTY])

    def test_behind_a_refusal(self):
        octets = whole(3, OLD) + JUNK
        for refused in (load([7] * 511), load([7] * 513), load([]), plan(NOT_RIGHT), save(NOT_RIGHT),
                        cut(NOT_RIGHT, 3, 4), cut(NOT_RIGHT, 999, 4)):
            told = ask(load(octets), refused, BYTES_OF)
            self.assertLess(told[1][0], 0)
            self.assertEqual(told[2], [0, *octets])
            self.assertEqual(ask(refused, BYTES_OF)[1], [0] + [0] * 512)

    def test_what_only_asks_changes_nothing(self):
        for octets in (EMPTY + EMPTY, whole(3, OLD) + JUNK, JUNK + JUNK):
            told = ask(load(octets), READ, BYTES_OF, plan(NEW), BYTES_OF, sum_of([1, 2, 3]), BYTES_OF, BYTES_OF)
            self.assertEqual([told[2], told[4], told[6], told[7]], [[0, *octets]] * 4)

    def test_an_earlier_answer_is_not_changed_later(self):
        told = ask(BYTES_OF, save(OLD), BYTES_OF, cut(NEW, 9, 9), load(JUNK + JUNK))
        self.assertEqual(told[0], [0] + [0] * 512)
        self.assertEqual(told[2], [0, *whole(0, OLD), *EMPTY])

    def test_loaded_again_it_reads_the_same(self):
        octets = ask(save(OLD), save(NEW), cut(OLD, 77, 84), BYTES_OF)[3][1:]
        self.assertEqual(ask(load(octets), READ, BYTES_OF), [[0], [0, 1, *NEW], [0, *octets]])


if __name__ == "__main__":
    unittest.main()
