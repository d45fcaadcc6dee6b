"""Operation 1: its errors, in their order."""

import unittest

from support import MACHINES, WIDTHS, any_registers, ask, bounds_of, is_valid, load, machines_for, new, run, save

FINE = [15, 0, 0, 0, 0, 1]
NONE = [24, 0, 0, 0, 0, 0]
WIDE = [0, 2, 0, 0, 0, 0]
MIDDLE = [0, 1, 0, 0, 0, 0]


class Order(unittest.TestCase):

    def answer(self, components, call):
        return ask(new(components), call)[1]

    def test_n(self):
        self.assertEqual(self.answer(3, run([FINE] * 4096, 4096, 0)), [4096])
        for n in (4097, 5000, 2 ** 31, 2 ** 32 - 1):
            self.assertEqual(self.answer(3, run([], 0, 0, n=n)), [-1])

    def test_from(self):
        for n in (0, 1, 5):
            self.assertEqual(self.answer(3, run([FINE] * n, n, 0)), [n])
            for start in (n + 1, n + 2, 2 ** 32 - 1):
                self.assertEqual(self.answer(3, run([FINE] * n, start, 0)), [-1])

    def test_most(self):
        self.assertEqual(self.answer(3, run([FINE], 0, 1000000)), [1])
        self.assertEqual(self.answer(3, run([FINE], 1, 1000000)), [1])
        for most in (1000001, 2 ** 31, 2 ** 32 - 1):
            self.assertEqual(self.answer(3, run([FINE], 1, most)), [-1])

    def test_a_range_is_looked_at_before_the_code(self):
        for code in ([NONE], [WIDE], [NONE, WIDE]):
            self.assertEqual(self.answer(3, run(code, len(code) + 1, 0)), [-1])
            self.assertEqual(self.answer(3, run(code, 0, 1000001)), [-1])

    def test_all_bytes_are_looked_at_before_what_is_needed(self):
        self.assertEqual(self.answer(3, run([WIDE, NONE])), [-2])
        self.assertEqual(self.answer(3, run([NONE, WIDE])), [-2])
        self.assertEqual(self.answer(3, run([WIDE, FINE])), [-3])
        self.assertEqual(self.answer(231, run([WIDE, NONE])), [-2])

    def test_it_counts_wherever_it_stands(self):
        for at in range(6):
            code = [FINE] * 6
            code[at] = NONE
            for start in range(7):
                for most in (0, 1, 100):
                    self.assertEqual(self.answer(231, run(code, start, most)), [-2])
            code[at] = WIDE
            for start in range(7):
                for most in (0, 1, 100):
                    self.assertEqual(self.answer(7, run(code, start, most)), [-3])

    def test_the_last_one_of_a_long_code_counts(self):
        self.assertEqual(self.answer(3, run([FINE] * 4095 + [NONE], 0, 0)), [-2])
        self.assertEqual(self.answer(3, run([FINE] * 4095 + [MIDDLE], 0, 0)), [-3])

    def test_an_error_leaves_the_machine_unchanged(self):
        for components in (3, 7):
            held = any_registers(50, components)
            content = held.long(components)
            for call in (run([FINE], 2), run([FINE], 0, 1000001), run([], 0, 0, n=4097), run([FINE, NONE]),
                         run([FINE, FINE, WIDE])):
                answered = ask(load(components, content), call, save())
                self.assertIn(answered[1], ([-1], [-2], [-3]))
                self.assertEqual(answered[2], [len(content)] + content)


def bases():
    """For each kind and width, instructions with the least and the greatest operands at the index 3."""
    for kind in range(24):
        for width in WIDTHS[kind]:
            tops = bounds_of(kind, width, 3)
            low = [0, 1 if kind == 23 else 0, 0]
            yield [kind, width, 0] + low
            yield [kind, width, 0] + [top - 1 for top in tops]


class Conditions(unittest.TestCase):
    """Which six bytes are an instruction."""

    def check(self, six, index=3):
        code = [FINE] * index + [six]
        expected = [index] if is_valid(six, index) else [-2]
        self.assertEqual(ask(new(231), run(code, index, 0))[1], expected, (six, index))

    def test_every_byte_in_every_place(self):
        for base in bases():
            self.assertTrue(is_valid(base, 3), base)
            for place in range(6):
                for byte in range(256):
                    six = base[:]
                    six[place] = byte
                    self.check(six)

    def test_width_and_mask_together(self):
        for base in bases():
            for width in range(4):
                for mask in range(9):
                    self.check([base[0], width, mask] + base[3:])

    def test_a_turn_is_below_the_count_of_lanes(self):
        for width in (0, 1, 2):
            for turn in range(10):
                expected = [0] if turn < (2, 4, 8)[width] else [-2]
                self.assertEqual(ask(new(231), run([[11, width, 0, 0, 0, turn]], 0, 0))[1], expected)

    def test_how_far_back_depends_on_the_index(self):
        for index in (0, 1, 2, 5, 254, 255, 256, 300):
            for back in (0, 1, 2, 3, 5, 6, 254, 255):
                code = [FINE] * index + [[23, 0, 0, 0, back, 0]]
                expected = [0] if 1 <= back <= index else [-2]
                self.assertEqual(ask(new(3), run(code, 0, 0))[1], expected, (index, back))

    def test_the_first_instruction_never_goes_back(self):
        for back in range(256):
            self.assertEqual(ask(new(231), run([[23, 0, 0, 0, back, 0]], 0, 0))[1], [-2])


class Needs(unittest.TestCase):
    """Which machine an instruction needs."""

    def check(self, six, fitting=None):
        code = [FINE] * 3 + [six]
        fitting = machines_for(six) if fitting is None else fitting
        for components in MACHINES:
            expected = [3] if components in fitting else [-3]
            self.assertEqual(ask(new(components), run(code, 3, 0))[1], expected, (six, components))

    def test_each_kind_width_and_mask(self):
        for base in bases():
            for mask in range(8 if base[0] <= 13 else 1):
                self.check(base[:2] + [mask] + base[3:])

    def test_each_number_of_each_operand(self):
        for base in bases():
            for place in (3, 4, 5):
                for number in range(64):
                    six = base[:]
                    six[place] = number
                    if is_valid(six, 3):
                        self.check(six)

    def test_written_out(self):
        every, middle, all_three = (231,), (7, 231), (3, 7, 231)
        self.check([0, 0, 0, 15, 15, 15], all_three)
        self.check([0, 1, 0, 15, 15, 15], middle)
        self.check([0, 2, 0, 15, 15, 15], every)
        self.check([0, 0, 1, 0, 0, 0], every)
        self.check([0, 1, 7, 0, 0, 0], every)
        for place in (3, 4, 5):
            six = [0, 0, 0, 0, 0, 0]
            six[place] = 16
            self.check(six, every)
        self.check([8, 0, 0, 15, 15, 63], all_three)
        self.check([8, 0, 0, 16, 0, 1], every)
        self.check([8, 0, 0, 0, 16, 1], every)
        self.check([11, 1, 0, 0, 0, 3], middle)
        self.check([11, 0, 0, 0, 16, 1], every)
        self.check([12, 0, 0, 15, 7, 0], all_three)
        self.check([12, 0, 0, 16, 0, 0], every)
        self.check([13, 0, 0, 16, 0, 0], every)
        self.check([14, 0, 0, 7, 15, 0], all_three)
        self.check([14, 1, 0, 7, 15, 0], middle)
        self.check([14, 2, 0, 0, 0, 0], every)
        self.check([14, 0, 0, 0, 16, 0], every)
        self.check([15, 0, 0, 7, 7, 7], all_three)
        self.check([16, 0, 0, 7, 7, 7], all_three)
        for kind in (17, 18, 19, 20, 21, 22):
            self.check([kind, 0, 0, 0, 0, 0], every)
        self.check([17, 1, 0, 0, 0, 0], every)
        self.check([20, 1, 0, 0, 0, 0], every)
        self.check([23, 0, 0, 7, 3, 0], all_three)


if __name__ == "__main__":
    unittest.main()
