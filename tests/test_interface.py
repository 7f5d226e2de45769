import builtins
import contextlib
import io
import unittest
from unittest import mock

from helper import (BYTES_OF, EMPTY, MAX32, MAX64, READ, TOP, WRONG, Model, ask, content, crc, cut, entries, load, plan,
                    save, some_content, sum_of, whole)
from halfwhole.memory import Memory, UnknownCall, answers

LARGEST = content(audits=[MAX64] * 8, setup=(9, 9, 9, 4, 1, 100000), levels=[1, 2, 3, TOP], best=entries([TOP] * 8))
MIXED = [
    *READ, *save(some_content(1)), *plan(some_content(2)), *save(some_content(3)), *READ, *load([1, 2, 3]),
    *save(WRONG["coins 0"]), *load(whole(7, some_content(4)) + [0] * 256), *READ, *save(some_content(5)), *READ,
    *BYTES_OF, *cut(some_content(6), 100, 84), *READ, *BYTES_OF, *sum_of(range(49, 58)), *cut(some_content(7), 999, 0),
    *READ, *cut(WRONG["coins 0"], 1, 2), *cut(some_content(8), 0, 255), *BYTES_OF, *READ, *sum_of([]),
]


class Untouched(list):
    """A list that lets nobody change it, not even for a while."""

    def refuse(self, *given, **named):
        raise RuntimeError("what was handed in is being changed")

    __setitem__ = __delitem__ = __iadd__ = __imul__ = refuse
    append = extend = insert = pop = remove = clear = reverse = sort = refuse


class FormTest(unittest.TestCase):
    def test_each_answer_has_its_count_before_it(self):
        told = some_content(6)
        self.assertEqual(answers([2]), [1, -4])
        self.assertEqual(answers([1, 0]), [1, -1])
        self.assertEqual(answers(load([0] * 512)), [1, 0])
        self.assertEqual(answers(save(told)), [2, 0, 0])
        self.assertEqual(answers(plan(told))[:3], [2 + 2 * 256, 0, 0])
        self.assertEqual(answers(save(told) + READ + save(told)), [2, 0, 0, 2 + len(told), 0, 0, *told, 2, 0, 1])
        self.assertEqual(answers(save(WRONG["coins 0"]) + plan(WRONG["coins 0"])), [1, -8, 1, -8])
        self.assertEqual(answers(cut(told, 3, 4) + cut(WRONG["coins 0"], 3, 4) + READ), [2, 0, 0, 1, -8, 1, -4])
        self.assertEqual(answers(BYTES_OF), [513, 0] + [0] * 512)
        self.assertEqual(answers([7, 0]), [2, 0, 0])
        self.assertEqual(answers([7, 9, *range(49, 58), 2]), [2, 0, 0xE3069283, 1, -4])

    def test_how_a_cut_is_handed_in(self):
        # k, then x, then the content: k and x are told apart, and are no part of the row.
        told = some_content(6)
        handed = [5, 1, 7, len(told), *told, 6]
        half = [0] * 4 + [whole(0, told)[4], 7] + [0] * 250
        self.assertEqual(answers(handed), [2, 0, 0, 513, 0, *half, *EMPTY])

    def test_whole_numbers_in_a_list(self):
        told = answers(MIXED)
        self.assertIs(type(told), list)
        self.assertEqual({type(number) for number in told}, {int})

    def test_a_new_memory_is_all_0(self):
        self.assertEqual(Memory().octets, [0] * 512)

    def test_what_is_no_call_is_not_taken_for_one(self):
        for number in (0, 8):
            with self.assertRaises(UnknownCall):
                answers([number, 0])


class HandedInTest(unittest.TestCase):
    def test_the_list_is_the_same_behind_it(self):
        handed = list(MIXED)
        answers(handed)
        self.assertEqual(handed, MIXED)

    def test_the_list_is_not_changed_for_a_while_either(self):
        self.assertEqual(answers(Untouched(MIXED)), answers(MIXED))

    def test_an_answer_is_the_callers_own(self):
        handed = list(MIXED)
        told = answers(handed)
        told.clear()
        self.assertEqual(handed, MIXED)


class NothingKeptTest(unittest.TestCase):
    def test_a_second_time_gives_the_same(self):
        handed = list(MIXED)
        first = answers(handed)
        self.assertEqual(answers(handed), first)

    def test_each_list_begins_with_a_new_memory(self):
        answers(save(some_content(1)))
        self.assertEqual(ask(READ), [[-4]])
        answers(load(whole(7, some_content(1)) * 2))
        self.assertEqual(ask(save(some_content(2))), [[0, 0]])
        answers(cut(some_content(1), 200, 84))
        self.assertEqual(ask(BYTES_OF), [[0] + [0] * 512])


class NothingElseTest(unittest.TestCase):
    def test_prints_reads_and_imports_nothing(self):
        def refuse(*given, **named):
            raise RuntimeError("something is printed, read or imported")

        expected = answers(MIXED)
        shown, blamed = io.StringIO(), io.StringIO()
        names = ("print", "open", "input", "__import__")
        with contextlib.redirect_stdout(shown), contextlib.redirect_stderr(blamed), contextlib.ExitStack() as stack:
            for name in names:
                stack.enter_context(mock.patch.object(builtins, name, refuse))
            told = answers(MIXED)
        self.assertEqual(told, expected)
        self.assertEqual((shown.getvalue(), blamed.getvalue()), ("", ""))


class LargestTest(unittest.TestCase):
    def test_300_reads(self):
        self.assertEqual(answers(READ * 300), [1, -4] * 300)

    def test_300_saves_of_the_largest(self):
        handed = save(LARGEST) * 299 + READ
        self.assertEqual(len(LARGEST), 51)
        told = answers(handed)
        self.assertEqual(told, [2, 0, 0, 2, 0, 1] * 149 + [2, 0, 0] + [53, 0, 0, *LARGEST])

    def test_300_plans_of_the_largest(self):
        told = ask(*[plan(LARGEST)] * 300)
        self.assertEqual(len(told), 300)
        self.assertEqual(told, told[:1] * 300)

    def test_16000_numbers(self):
        octets = whole(7, LARGEST) + [0] * 256
        calls = [load(octets), save(LARGEST), READ] * 27
        rest = 16000 - sum(map(len, calls))
        calls += [load([255] * (1000 if rest >= 1002 else rest - 2))]
        rest = 16000 - sum(map(len, calls))
        calls += [READ] * rest
        self.assertEqual(sum(map(len, calls)), 16000)
        self.assertTrue(len(calls) <= 300, len(calls))
        told = ask(*calls)
        self.assertEqual(told[:81], [[0], [0, 1], [0, 1, *LARGEST]] * 27)
        self.assertEqual(told[81:], [[-1]] + [[0, 1, *LARGEST]] * rest)

    def test_300_of_each_new_call(self):
        self.assertEqual(answers(BYTES_OF * 300), ([513, 0] + [0] * 512) * 300)
        self.assertEqual(answers(sum_of([]) * 300), [2, 0, 0] * 300)
        told = content()
        self.assertLessEqual(len(cut(told, MAX32, 255)) * 300, 16000)
        self.assertEqual(answers(cut(told, MAX32, 255) * 300), [2, 0, 0, 2, 0, 1] * 150)

    def test_all_seven_in_300_calls_of_16000_numbers(self):
        some = [load(whole(7, LARGEST) + EMPTY), READ, plan(LARGEST), save(LARGEST), BYTES_OF]
        calls = some + [cut(LARGEST, turn, 84) for turn in range(254)] + [READ, BYTES_OF] * 20
        rest = 16000 - sum(map(len, calls))
        calls += [sum_of([turn % 256 for turn in range(rest - 2)])]
        self.assertEqual((len(calls), sum(map(len, calls))), (300, 16000))
        model = Model()
        self.assertEqual(ask(*calls), [model.answer(call) for call in calls])

    def test_10000_octets_among_16000_numbers(self):
        octets = [turn % 251 for turn in range(10000)]
        calls = [cut(LARGEST, 255, 84), sum_of(octets), READ, sum_of(octets[:5900])]
        calls += [READ] * (16000 - sum(map(len, calls)))
        self.assertEqual(sum(map(len, calls)), 16000)
        read = [0, 0, *LARGEST]
        told = ask(*calls)
        self.assertEqual(told[:4], [[0, 0], [0, crc(octets)], read, [0, crc(octets[:5900])]])
        self.assertEqual(told[4:], [read] * len(calls[4:]))

    def test_1000_octets(self):
        self.assertEqual(ask(*[load([255] * 1000)] * 15), [[-1]] * 15)

    def test_the_largest_numbers_of_each_place(self):
        numbers = [MAX64] * 8 + [2 ** 32 - 1] * 4 + [1, 2 ** 32 - 1, 4] + [MAX64] * 4 + [MAX64, 255, 255, 255] * 8
        self.assertEqual(ask(plan(numbers), save(numbers), READ), [[-8], [-8], [-4]])


if __name__ == "__main__":
    unittest.main()
