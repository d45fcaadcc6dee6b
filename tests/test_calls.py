"""The interface: one list of calls, one list of answers."""

import unittest

from support import (Registers, any_code, any_registers, ask, bytes_of, differ, load, new, number_source, peek, poke,
                     run, save, turn)
from vectorpoints.machine import answers


class Calls(unittest.TestCase):

    def test_each_answer_stands_behind_its_count(self):
        code = [[15, 0, 0, 0, 0, 0]]
        self.assertEqual(answers([0, 1, 3, 0]), [1, 0])
        self.assertEqual(answers([0, 1, 4, 0]), [1, -1])
        self.assertEqual(answers(new(3) + run(code)), [1, 0, 1, 1])
        self.assertEqual(answers(new(3) + save(575)), [1, 0, 1, -4])
        self.assertEqual(answers(new(3) + save(576)), [1, 0, 577, 576] + Registers().long(3))
        self.assertEqual(answers([3, 2, 0, 3, 0]), [1, -2])

    def test_a_list_written_out(self):
        calls = [0, 1, 3, 0,
                 1, 15, 2, 0, 9, 12, 0, 0, 0, 0, 0, 15, 0, 0, 0, 0, 0, 0,
                 0, 1, 8, 0,
                 1, 3, 0, 1, 0, 0,
                 2, 2, 4096, 2, 0]
        self.assertEqual(answers(calls), [1, 0, 1, 2, 1, -1, 1, -1, 1, -1])

    def test_several_calls_with_errors_among_them(self):
        held = any_registers(110, 7)
        code = [[0, 1, 0, 1, 2, 3], [15, 0, 0, 1, 2, 3]]
        answered = ask(
            new(5), load(3, held.short()), load(7, held.long(7)[:-1]), load(7, held.long(7)), run(code, 3),
            run([[0, 2, 0, 0, 0, 0]]), run([[0, 0, 0, 0, 0, 32]]), save(831, 0), save(4096, 9), save(832, 0),
            new(3), run(code), run(code[1:], 0, 1), load(3, held.short()), load(8, held.short()), save())
        self.assertEqual([answer[0] for answer in answered],
                         [-1, -3, -2, 0, -1, -3, -2, -4, -1, 832, 0, -3, 1, -3, -1, 576])
        self.assertEqual(answered[9][1:], held.long(7))
        self.assertEqual(answered[15][1:], Registers().long(3))

    def test_each_new_call_stands_behind_its_count(self):
        zeros = Registers().short()
        self.assertEqual(answers([4, 4, 0, 0, 0, 3, 0]), [1, -2])
        self.assertEqual(answers([4, 4, 2689, 0, 1, 231, 0]), [1, -2])
        self.assertEqual(answers(turn(zeros, 3)), [577, 576] + Registers().long(3))
        self.assertEqual(answers([0, 1, 3, 0, 5, 1, 49, 0]), [1, 0, 1, -1])
        self.assertEqual(answers([0, 1, 3, 0, 5, 1, 48, 0]), [1, 0, 65, 0] + [0] * 8 + [3] + [0] * 55)
        self.assertEqual(answers([0, 1, 3, 0, 6, 65, 32] + [7] * 8 + [0] * 56 + [0, 5, 1, 32, 0]),
                         [1, 0, 1, 0, 65, 0] + [7] * 8 + [0] * 56)
        self.assertEqual(answers([7, 2, 0, 0, 0]), [1, -2])
        self.assertEqual(answers([7, 1154, 576, 576] + zeros + zeros + [0]), [1, 0])

    def test_every_call_in_one_list(self):
        held = any_registers(116, 3)
        answered = ask(
            differ(held.short(), held.long(7)), turn(held.long(231), 3), load(3, held.short()), peek(48),
            poke(39, bytes_of(5)), peek(39), run([[15, 0, 0, 6, 7, 7]]), peek(38), save(576), new(231), peek(48),
            poke(47, bytes_of(1)), save(640, 1), differ(held.short(), Registers().short()))
        self.assertEqual([answer[0] for answer in answered], [0, 576, 0, 0, 0, 0, 1, 0, 576, 0, 0, 0, 640, 3])
        held.m[6:] = [10, 5]
        self.assertEqual(answered[5], [0] + bytes_of(5))
        self.assertEqual(answered[7], [0] + bytes_of(10))
        self.assertEqual(answered[8][1:], held.long(3))
        self.assertEqual([len(answer) for answer in answered], [1, 577, 1, 65, 1, 65, 1, 65, 577, 1, 65, 1, 641, 1])

    def test_sixty_calls(self):
        calls = [new(3)] + [run([[15, 0, 0, 0, 0, 0]], 0, 1)] * 58 + [save()]
        answered = ask(*calls)
        self.assertEqual(answered[:59], [[0]] + [[1]] * 58)
        self.assertEqual(answered[59], [576] + Registers().long(3))

    def test_the_list_handed_in_is_unchanged(self):
        held = any_registers(111)
        code = any_code(number_source(112), 10)
        calls = (load(231, held.long(231)) + run(code, 0, 50) + save(4096, 1) + new(9) + save(0, 0)
                 + run([[99, 0, 0, 0, 0, 0]]) + turn(held.short(), 231) + peek(3) + poke(3, [1] * 64)
                 + poke(33, [1] * 64) + differ(held.long(231), held.short()))
        kept = list(calls)
        answers(calls)
        self.assertEqual(calls, kept)

    def test_calling_twice_gives_the_same(self):
        held = any_registers(113)
        code = any_code(number_source(114), 10)
        calls = (load(231, held.long(231)) + run(code, 0, 50) + poke(20, [3] * 64) + save(4096, 0) + new(3) + peek(48)
                 + poke(32, bytes_of(6)) + save())
        first = answers(calls)
        second = answers(calls)
        self.assertEqual(first, second)
        self.assertIsNot(first, second)
        first.clear()
        self.assertEqual(answers(calls), second)

    def test_nothing_is_kept_from_one_list_to_another(self):
        fresh = ask(new(231), save())
        ask(load(231, any_registers(115).long(231)), run([[0, 2, 0, 1, 2, 3]]))
        self.assertEqual(ask(new(231), save()), fresh)

    def test_answers_are_whole_numbers_in_a_list(self):
        zeros = Registers().short()
        result = answers(new(3) + run([]) + save() + new(4) + peek(48) + poke(32, bytes_of(1)) + peek(32)
                         + turn(zeros, 7) + differ(zeros, zeros) + poke(0, [1] * 64))
        self.assertIs(type(result), list)
        self.assertEqual({type(number) for number in result}, {int})


if __name__ == "__main__":
    unittest.main()
