"""Operation 5: peek."""

import unittest

from support import (MACHINES, USED, Registers, any_registers, ask, bytes_of, fits, held_words, load, new, peek, poke,
                     run, save)


class Literal(unittest.TestCase):
    """Outcomes that are written out."""

    def test_a_v_register_lane_by_lane(self):
        held = Registers()
        for number in (0, 15, 16, 31):
            held.v[number] = [0x0807060504030201 + 256 * number * lane for lane in range(8)]
        held.v[31][7] = 0xF1F2F3F4F5F6F7F8
        answered = ask(load(231, held.long(231)), peek(0), peek(15), peek(16), peek(31))
        self.assertEqual(answered[1], [0] + [1, 2, 3, 4, 5, 6, 7, 8] * 8)
        self.assertEqual(answered[2][:17], [0, 1, 2, 3, 4, 5, 6, 7, 8, 1, 17, 3, 4, 5, 6, 7, 8])
        self.assertEqual(answered[3][:17], [0, 1, 2, 3, 4, 5, 6, 7, 8, 1, 18, 3, 4, 5, 6, 7, 8])
        self.assertEqual(answered[4][57:], [0xF8, 0xF7, 0xF6, 0xF5, 0xF4, 0xF3, 0xF2, 0xF1])

    def test_m_and_k_are_followed_by_zeros(self):
        held = Registers()
        held.m[0], held.m[7] = 1, 2 ** 64 - 2
        held.k[0], held.k[7] = 0x0102, 2 ** 63
        answered = ask(load(231, held.long(231)), peek(32), peek(39), peek(40), peek(47))
        self.assertEqual(answered[1:], [[0, 1] + [0] * 63, [0, 254] + [255] * 7 + [0] * 56,
                                        [0, 2, 1] + [0] * 62, [0] + [0] * 7 + [128] + [0] * 56])

    def test_what_is_in_use_and_the_machine(self):
        held = Registers()
        held.k[3] = 1
        held.v[20][7] = 1
        answered = ask(load(231, held.long(231)), peek(48), new(7), peek(48))
        self.assertEqual(answered[1], [0, 160] + [0] * 7 + [231] + [0] * 55)
        self.assertEqual(answered[3], [0, 0] + [0] * 7 + [7] + [0] * 55)


class EveryNumber(unittest.TestCase):

    def test_each_number_on_each_machine(self):
        for components in MACHINES:
            held = any_registers(600, components)
            answered = ask(load(components, held.short()), *[peek(number) for number in range(49)])
            for number in range(48):
                self.assertEqual(answered[1 + number], [0] + bytes_of(*held_words(held, number)), number)
            self.assertEqual(answered[49], [0] + bytes_of(components, components))

    def test_a_register_that_the_machine_lacks_is_0(self):
        for components in MACHINES:
            held = any_registers(601, 3)
            answered = ask(load(components, held.short()), *[peek(number) for number in range(48)])
            for number in list(range(16, 32)) + list(range(40, 48)):
                self.assertEqual(answered[1 + number], [0] * 65)
            for number in range(16):
                self.assertEqual(answered[1 + number], [0] + bytes_of(*held.v[number][:2]))

    def test_a_new_machine_has_zeros(self):
        for components in MACHINES:
            answered = ask(new(components), *[peek(number) for number in range(49)])
            self.assertEqual(answered[1:49], [[0] * 65] * 48)
            self.assertEqual(answered[49], [0] + bytes_of(0, components))

    def test_each_sum_of_weights_in_use(self):
        for used in USED:
            held = any_registers(610 + used, used)
            for components in MACHINES:
                if fits(used, components):
                    answered = ask(load(components, held.short()), peek(48))
                    self.assertEqual(answered[1], [0] + bytes_of(used, components))

    def test_what_is_in_use_follows_the_state(self):
        add = [[15, 0, 0, 2, 0, 1]]
        answered = ask(new(7), peek(48), poke(33, bytes_of(5)), peek(48), run(add), peek(34),
                       poke(3, bytes_of(0, 0, 0, 9)), peek(48), poke(3, bytes_of()), peek(48), new(3), peek(48))
        self.assertEqual([answered[at] for at in (1, 3, 7, 9, 11)],
                         [[0] + bytes_of(used, components)
                          for used, components in ((0, 7), (1, 7), (5, 7), (1, 7), (0, 3))])
        self.assertEqual(answered[5], [0] + bytes_of(5))

    def test_what_a_run_wrote(self):
        code = [[13, 2, 0, 31, 1, 0], [17, 2, 0, 7, 5, 31], [14, 2, 0, 4, 31, 0]]
        held = Registers()
        held.m[1] = 2 ** 64 - 3
        held.v[5] = [1] * 8
        top = 2 ** 64
        answered = ask(load(231, held.long(231)), run(code), peek(31), peek(47), peek(36))
        self.assertEqual(answered[2:], [[0] + bytes_of(top - 3, top - 2, top - 1, 0, 1, 2, 3, 4),
                                        [0] + bytes_of(0b11100111), [0] + bytes_of(4)])

    def test_it_leaves_the_machine_as_it_was(self):
        held = any_registers(602)
        answered = ask(load(231, held.long(231)), peek(0), peek(31), peek(32), peek(47), peek(48), peek(49), save())
        self.assertEqual(answered[-1], [2688] + held.long(231))


class Errors(unittest.TestCase):

    def test_numbers_above_48(self):
        for components in MACHINES:
            held = any_registers(603, components)
            for number in (49, 50, 63, 64, 255, 256, 256 + 48, 2 ** 31, 2 ** 32 - 1):
                answered = ask(load(components, held.short()), peek(number), save())
                self.assertEqual(answered[1], [-1], number)
                self.assertEqual(answered[2][1:], held.long(components))

    def test_48_is_the_last(self):
        self.assertEqual([answer[0] for answer in ask(new(3), peek(47), peek(48), peek(49))], [0, 0, 0, -1])


if __name__ == "__main__":
    unittest.main()
