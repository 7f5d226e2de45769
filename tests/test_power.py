"""Wherever the power goes, what's read is as before or the new content; the half that's read isn't touched."""

import unittest

from helper import (BYTES_OF, EMPTY, JUNK, MAX32, MAX64, NEW, OLD, READ, ask, content, cut, cut_off, load, plan,
                    save, some_content, whole, writes_to, written)

TOLD = content(audits=[3] * 8, levels=[0x7], setup=(9, 1, 0, 1, 1, 0))
COUNTS = range(259)


def left_by(octets, told, k, x):
    return ask(load(octets), cut(told, k, x), BYTES_OF)[2][1:]


class PowerTest(unittest.TestCase):
    def check(self, octets, some_x=(0, 84, 255)):
        before, planned = ask(load(octets), READ, plan(TOLD))[1:]
        half, writes = planned[1], planned[2:]
        size = len(writes) // 2
        after = [0, half, *TOLD]
        self.assertNotEqual(before, after)
        other = 1 - half
        for k in COUNTS:
            meant = [writes[2 * k + 1]] if k < size else []
            for x in sorted({*some_x, *meant}):
                read, behind = ask(load(octets), cut(TOLD, k, x), READ, BYTES_OF)[2:]
                # Only the last byte makes the new half whole.
                done = k >= size or (k == size - 1 and x == 0x54)
                self.assertEqual(read, after if done else before, (k, x))
                self.assertEqual(behind[1:][256 * other:256 * other + 256], octets[256 * other:256 * other + 256])
        return before

    def test_a_new_memory(self):
        self.assertEqual(self.check(EMPTY + EMPTY), [-4])

    def test_nothing_whole(self):
        self.assertEqual(self.check([0x54] * 512), [-4])
        self.assertEqual(self.check(JUNK + JUNK, (84,)), [-4])

    def test_one_whole_half(self):
        self.assertEqual(self.check(whole(5, OLD) + EMPTY), [0, 0, *OLD])
        self.assertEqual(self.check(EMPTY + whole(5, OLD)), [0, 1, *OLD])
        self.assertEqual(self.check([0x54] + JUNK[1:] + whole(MAX32, OLD), (84,)), [0, 1, *OLD])

    def test_two_whole_halves(self):
        self.assertEqual(self.check(whole(5, OLD) + whole(4, NEW)), [0, 0, *OLD])
        self.assertEqual(self.check(whole(4, NEW) + whole(5, OLD)), [0, 1, *OLD])

    def test_two_whole_halves_with_numbers_out_of_step(self):
        for first, second, half in ((5, 5, 0), (5, 7, 0), (7, 5, 0), (0, MAX32, 0), (MAX32, 0, 1)):
            before = self.check(whole(first, OLD) + whole(second, NEW), (84,))
            self.assertEqual(before, [0, half, *(NEW if half else OLD)])

    def test_behind_saves(self):
        for count in (1, 2, 3):
            contents = [some_content(seed) for seed in range(count)]
            octets = ask(*[save(told) for told in contents], BYTES_OF)[-1][1:]
            self.assertEqual(self.check(octets, (84,)), [0, (count - 1) % 2, *contents[-1]])

    def test_what_an_earlier_cut_has_left(self):
        for octets, before in (
            (EMPTY + EMPTY, [-4]),
            (whole(5, OLD) + EMPTY, [0, 0, *OLD]),
            (whole(4, NEW) + whole(5, OLD), [0, 1, *OLD]),
        ):
            for k, x in ((0, 7), (128, 84), (255, 0)):
                left = left_by(octets, NEW, k, x)
                self.assertEqual(self.check(left, (84, 255)), before, (k, x))

    def test_unfinished_but_for_its_first_byte(self):
        # Were byte 0 written here first, with 54H left there by the cut, the unfinished content would be read.
        unfinished = [0] + whole(6, NEW)[1:]
        self.assertEqual(self.check(whole(5, OLD) + unfinished), [0, 0, *OLD])
        self.assertEqual(self.check([255] + unfinished[1:] + whole(5, OLD), (84,)), [0, 1, *OLD])
        self.assertEqual(self.check(unfinished + unfinished, (84,)), [-4])

    def test_the_same_content_cut_and_planned_again(self):
        left = left_by(whole(5, OLD) + EMPTY, TOLD, 255, 0)
        self.assertEqual(left[257:], whole(6, TOLD)[1:])
        self.assertEqual(self.check(left), [0, 0, *OLD])

    def test_every_x_at_the_first_and_the_last_write(self):
        for octets in (whole(5, OLD) + EMPTY, whole(5, OLD) + whole(4, NEW), whole(4, NEW) + whole(5, OLD)):
            before, planned = ask(load(octets), READ, plan(TOLD))[1:]
            size = len(planned) // 2 - 1
            for x in range(256):
                reads = ask(load(octets), cut(TOLD, 0, x), READ, load(octets), cut(TOLD, size - 1, x), READ)[2::3]
                self.assertEqual(reads, [before, [0, planned[1], *TOLD] if x == 84 else before], x)


class CutUponCutTest(unittest.TestCase):
    def test_a_long_row_of_cuts(self):
        # The power goes again and again, at other places each time; now and then a plan comes to its end.
        octets = EMPTY + EMPTY
        before = [-4]
        seen = {"kept": 0, "new": 0}
        for turn in range(600):
            told = content(audits=[turn + 1000, MAX64 - turn] * 4)
            k = (turn * 101) % 259
            x = (0, 84, 255, turn % 256)[turn % 4]
            half, read, behind = [answer[1:] for answer in ask(load(octets), cut(told, k, x), READ, BYTES_OF)[1:]]
            new = [*half, *told]
            self.assertIn(read, (before[1:], new))
            seen["new" if read == new else "kept"] += 1
            kept = 256 * (1 - half[0])
            self.assertEqual(behind[kept:kept + 256], octets[kept:kept + 256])
            octets, before = behind, [0, *read] if read else [-4]
        self.assertGreater(min(seen.values()), 3, seen)

    def test_in_one_list(self):
        calls, expected = [save(OLD)], [[0, 0]]
        octets = whole(0, OLD) + EMPTY
        for k in range(0, 256, 3):
            writes = writes_to(octets[256:], whole(1, TOLD))
            octets = written(octets, 1, cut_off(writes, k, 84))
            calls += [cut(TOLD, k, 84), READ, BYTES_OF]
            expected += [[0, 1], [0, 0, *OLD], [0, *octets]]
            if k == 255:
                expected[-2] = [0, 1, *TOLD]
        self.assertLessEqual(len(calls), 300)
        self.assertEqual(ask(*calls), expected)


if __name__ == "__main__":
    unittest.main()
