"""All seven calls, in any order, held to the document's words told a second time (helper.Model)."""

import random
import unittest

from helper import (BYTES_OF, EMPTY, JUNK, MAX32, READ, RIGHT, WRONG, Model, ask, cut, is_right, load, plan, save,
                    some_content, sum_of, whole)

WRONGS = list(WRONG.values())
RIGHTS = list(RIGHT.values())


def some_half(source):
    number = source.choice((0, 1, 2, MAX32 - 1, MAX32))
    half = whole(number, source.choice(RIGHTS))
    if source.random() < 0.4:
        half[source.choice((0, 0, 1, 3, 4, 100, 248, 255))] = source.choice((0, 84, 255))
    return source.choice((half, half, half, EMPTY, JUNK))


def some_told(source):
    if source.random() < 0.15:
        return source.choice(WRONGS)
    return source.choice((source.choice(RIGHTS), some_content(source.random())))


def some_call(source):
    number = source.choice((1, 2, 2, 3, 4, 4, 5, 5, 5, 5, 6, 6, 7))
    if number == 1:
        if source.random() < 0.3:
            return load(list(source.randbytes(source.choice((0, 1, 511, 513)))))
        return load(some_half(source) + some_half(source))
    if number == 3:
        return plan(some_told(source))
    if number == 4:
        return save(some_told(source))
    if number == 5:
        k = source.choice((0, 1, 2, source.randrange(259), source.randrange(259), 254, 255, 256, 257, MAX32))
        return cut(some_told(source), k, source.choice((0, 84, 255, source.randrange(256))))
    if number == 7:
        return sum_of(source.randbytes(source.randrange(30)))
    return READ if number == 2 else BYTES_OF


def calls_of(source, most):
    """At most so many calls, of at most 16000 numbers."""
    calls, size = [], 0
    while len(calls) < most:
        call = some_call(source)
        size += len(call)
        if size > 16000:
            break
        calls.append(call)
    return calls


class AnyOrderTest(unittest.TestCase):
    def test_as_the_document_says(self):
        source = random.Random(5)
        seen = {}
        for turn in range(60):
            calls = calls_of(source, source.choice((1, 5, 50, 300)))
            model = Model()
            for call, answer in zip(calls, ask(*calls), strict=True):
                self.assertEqual(answer, model.answer(call), (turn, call))
                kind = call[0], answer[0]
                seen[kind] = seen.get(kind, 0) + 1
        expected = {(1, 0), (1, -1), (2, 0), (2, -4), (3, 0), (3, -8), (4, 0), (4, -8), (5, 0), (5, -8), (6, 0), (7, 0)}
        self.assertEqual(set(seen), expected)
        self.assertGreater(min(seen.values()), 5, seen)


class PromisesTest(unittest.TestCase):
    """J1 to J5 behind each call of a row, by what read and bytes answer about it."""

    def around(self, source):
        calls = [call for call in calls_of(source, 60) if call[0] != 2 and call[0] != 6]
        octets = EMPTY + EMPTY
        for call in calls:
            told = ask(load(octets), READ, call, READ, BYTES_OF)
            behind = told[4][1:]
            yield call, told[2], told[1], told[3], octets, behind
            octets = behind

    def test_behind_each_call(self):
        source = random.Random(6)
        for turn in range(25):
            for call, answer, before, read, octets, behind in self.around(source):
                told = call[4:] if call[0] == 5 else call[2:]
                # J4
                self.assertTrue(read == [-4] or is_right(read[2:]), read)
                # J5, and what only asks
                if answer[0] < 0 or call[0] in (3, 7):
                    self.assertEqual(behind, octets)
                    self.assertEqual(read, before)
                    continue
                # J1
                if call[0] == 4:
                    self.assertEqual(read, [0, answer[1], *told])
                # J2
                if call[0] == 5:
                    self.assertIn(read, (before, [0, answer[1], *told]))
                # J3
                if call[0] in (4, 5):
                    kept = 256 * (1 - answer[1])
                    self.assertEqual(behind[kept:kept + 256], octets[kept:kept + 256])
                    if before != [-4]:
                        self.assertEqual(before[1], 1 - answer[1])


if __name__ == "__main__":
    unittest.main()
