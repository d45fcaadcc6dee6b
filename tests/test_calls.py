"""The interface: one list of calls, one list of answers."""

import unittest

from support import Registers, any_code, any_registers, ask, load, new, number_source, run, save
from vectorpoints.machine import answers


class Calls(unittest.TestCase):

    def test_each_answer_stands_behind_its_count(self):
        code = [[15, 0, 0, 0, 0, 0]]
        self.assertEqual(answers([0, 1, 3, 0]), [1, 0])
        self.assertEqual(answers([0, 1, 4, 0]), [1, -1])
        self.assertEqual(answers(new(3) + run(code)), [1, 0, 1, 1])
        self.assertEqual(answers(new(3) + save(575)), [1, 0, 1, -4])
        self.assertEqual(answers(new(3) + save(576)), [1, 0, 577, 576] + Registers().long(3))
        self.assertEqual(answers([3, 2, 0, 3, 0]), [1, -2])

    def test_a_list_written_out(self):
        calls = [0, 1, 3, 0,
                 1, 15, 2, 0, 9, 12, 0, 0, 0, 0, 0, 15, 0, 0, 0, 0, 0, 0,
                 0, 1, 8, 0,
                 1, 3, 0, 1, 0, 0,
                 2, 2, 4096, 2, 0]
        self.assertEqual(answers(calls), [1, 0, 1, 2, 1, -1, 1, -1, 1, -1])

    def test_several_calls_with_errors_among_them(self):
        held = any_registers(110, 7)
        code = [[0, 1, 0, 1, 2, 3], [15, 0, 0, 1, 2, 3]]
        answered = ask(
            new(5), load(3, held.short()), load(7, held.long(7)[:-1]), load(7, held.long(7)), run(code, 3),
            run([[0, 2, 0, 0, 0, 0]]), run([[0, 0, 0, 0, 0, 32]]), save(831, 0), save(4096, 9), save(832, 0),
            new(3), run(code), run(code[1:], 0, 1), load(3, held.short()), load(8, held.short()), save())
        self.assertEqual([answer[0] for answer in answered],
                         [-1, -3, -2, 0, -1, -3, -2, -4, -1, 832, 0, -3, 1, -3, -1, 576])
        self.assertEqual(answered[9][1:], held.long(7))
        self.assertEqual(answered[15][1:], Registers().long(3))

    def test_sixty_calls(self):
        calls = [new(3)] + [run([[15, 0, 0, 0, 0, 0]], 0, 1)] * 58 + [save()]
        answered = ask(*calls)
        self.assertEqual(answered[:59], [[0]] + [[1]] * 58)
        self.assertEqual(answered[59], [576] + Registers().long(3))

    def test_the_list_handed_in_is_unchanged(self):
        held = any_registers(111)
        code = any_code(number_source(112), 10)
        calls = (load(231, held.long(231)) + run(code, 0, 50) + save(4096, 1) + new(9) + save(0, 0)
                 + run([[99, 0, 0, 0, 0, 0]]))
        kept = list(calls)
        answers(calls)
        self.assertEqual(calls, kept)

    def test_calling_twice_gives_the_same(self):
        held = any_registers(113)
        code = any_code(number_source(114), 10)
        calls = load(231, held.long(231)) + run(code, 0, 50) + save(4096, 0) + new(3) + save()
        first = answers(calls)
        second = answers(calls)
        self.assertEqual(first, second)
        self.assertIsNot(first, second)
        first.clear()
        self.assertEqual(answers(calls), second)

    def test_nothing_is_kept_from_one_list_to_another(self):
        fresh = ask(new(231), save())
        ask(load(231, any_registers(115).long(231)), run([[0, 2, 0, 1, 2, 3]]))
        self.assertEqual(ask(new(231), save()), fresh)

    def test_answers_are_whole_numbers_in_a_list(self):
        result = answers(new(3) + run([]) + save() + new(4))
        self.assertIs(type(result), list)
        self.assertEqual({type(number) for number in result}, {int})


if __name__ == "__main__":
    unittest.main()
