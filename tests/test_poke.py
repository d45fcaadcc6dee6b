"""Operation 6: poke."""

import unittest

from support import (MACHINES, TOP, Registers, any_registers, any_word, ask, bytes_of, changed, fits, held_words,
                     hold_words, load, new, number_source, peek, poke, run, save, weight_of)

BEYOND = (48, 49, 50, 63, 64, 255, 256, 256 + 32, 2 ** 31, 2 ** 32 - 1)


def places():
    """Every word of every register: number and lane."""
    for number in range(48):
        for lane in range(8 if number < 32 else 1):
            yield number, lane


class Setting(unittest.TestCase):

    def test_byte_by_byte(self):
        content = [9] + [0] * 6 + [1] + list(range(8, 64))
        answered = ask(new(231), poke(0, content), poke(31, content), poke(39, content[:8] + [0] * 56),
                       poke(40, [0] * 7 + [128] + [0] * 56), save())
        self.assertEqual(answered[:5], [[0]] * 5)
        held = Registers()
        held.m[7] = 2 ** 56 + 9
        held.k[0] = 2 ** 63
        held.v[0] = held.v[31] = [2 ** 56 + 9] + [sum((8 * lane + i) * 256 ** i for i in range(8))
                                                  for lane in range(1, 8)]
        self.assertEqual(answered[5], [2688] + held.long(231))

    def test_each_number(self):
        source = number_source(700)
        held = any_registers(701)
        for number in range(48):
            words = [any_word(source) for _ in range(8 if number < 32 else 1)]
            answered = ask(load(231, held.long(231)), poke(number, bytes_of(*words)), peek(number), save())
            after = hold_words(held, number, words)
            self.assertEqual(answered[1:], [[0], [0] + bytes_of(*words), [2688] + after.long(231)], number)

    def test_both_ends_of_each_range(self):
        for components in MACHINES:
            numbers = {3: (32, 39), 7: (32, 39), 231: (0, 15, 16, 31, 32, 39, 40, 47)}[components]
            held = Registers()
            calls = [new(components)]
            for number in numbers:
                words = [number + 1] * (8 if number < 32 else 1)
                held = hold_words(held, number, words)
                calls.append(poke(number, bytes_of(*words)))
            answered = ask(*calls, save())
            self.assertEqual(answered[:-1], [[0]] * len(calls))
            self.assertEqual(answered[-1][1:], held.long(components))

    def test_the_highest_and_the_lowest_words(self):
        for number in range(48):
            count = 8 if number < 32 else 1
            answered = ask(new(231), poke(number, bytes_of(*[TOP] * count)), peek(number),
                           poke(number, bytes_of()), peek(number), peek(48))
            self.assertEqual(answered[1:], [[0], [0] + [255] * 8 * count + [0] * (64 - 8 * count), [0], [0] * 65,
                                            [0] + bytes_of(0, 231)])

    def test_the_lanes_that_a_machine_has(self):
        for components, count in ((3, 2), (7, 4), (231, 8)):
            for number in (0, 7, 15):
                held = any_registers(702, components)
                words = [number_source(number).getrandbits(64) for _ in range(count)]
                after = hold_words(held, number, words + [0] * (8 - count))
                answered = ask(load(components, held.short()), poke(number, bytes_of(*words)), save(), save(form=1))
                whole, short = after.long(components), after.short()
                self.assertEqual(answered[1:], [[0], [len(whole)] + whole, [len(short)] + short])

    def test_it_sets_the_whole_register(self):
        held = any_registers(703)
        answered = ask(load(231, held.short()), poke(4, bytes_of(1)), peek(4), poke(20, bytes_of(0, 2)), peek(20))
        self.assertEqual(answered[1:], [[0], [0] + bytes_of(1), [0], [0] + bytes_of(0, 2)])

    def test_what_is_set_is_worked_on(self):
        code = [[0, 0, 0, 3, 1, 2], [15, 0, 0, 5, 0, 7]]
        answered = ask(new(3), poke(1, bytes_of(5, TOP)), poke(2, bytes_of(6, 2)), poke(32, bytes_of(40)),
                       poke(39, bytes_of(2)), run(code), peek(3), peek(37))
        self.assertEqual(answered[1:], [[0]] * 4 + [[2], [0] + bytes_of(11, 1), [0] + bytes_of(42)])

    def test_a_mask_that_is_set_is_used(self):
        answered = ask(new(231), poke(0, bytes_of(*range(1, 9))), poke(9, bytes_of(*[70] * 8)),
                       poke(47, bytes_of(0b00111001)), run([[5, 2, 7, 9, 0, 0]]), peek(9))
        self.assertEqual(answered[5], [0] + bytes_of(1, 70, 70, 4, 5, 6, 70, 70))

    def test_a_component_that_is_0_again(self):
        held = Registers()
        held.v[3][2] = 5
        answered = ask(load(7, held.short()), peek(48), poke(3, bytes_of(1, 2)), peek(48), save(form=1))
        self.assertEqual([answered[1], answered[3], answered[4][0]],
                         [[0] + bytes_of(4, 7), [0] + bytes_of(2, 7), 576])


class Errors(unittest.TestCase):

    def test_numbers_above_47(self):
        for components in MACHINES:
            held = any_registers(710, components)
            whole = held.long(components)
            for number in BEYOND:
                for content in (bytes_of(), bytes_of(1), [255] * 64):
                    answered = ask(load(components, whole), poke(number, content), save())
                    self.assertEqual(answered[1:], [[-1], [len(whole)] + whole], number)

    def test_each_of_the_other_56_bytes(self):
        for number in range(32, 48):
            held = any_registers(711)
            kept = bytes_of(*held_words(held, number))
            for at in range(8, 64):
                for byte in (1, 128, 255):
                    for content in (bytes_of(77), bytes_of()):
                        answered = ask(load(231, held.short()), poke(number, changed(content, at, byte)),
                                       peek(number), peek(48))
                        self.assertEqual(answered[1:], [[-2], [0] + kept, [0] + bytes_of(231, 231)], (number, at))

    def test_a_v_register_may_have_any_bytes(self):
        for number in range(32):
            for at in range(64):
                content = changed([0] * 64, at, 1)
                self.assertEqual(ask(new(231), poke(number, content), peek(number))[1:], [[0], [0] + content])

    def test_each_component_that_a_machine_lacks(self):
        for number, lane in places():
            weight = weight_of(number, lane)
            for word in (1, 2 ** 63):
                content = bytes_of(*[0] * lane + [word])
                for components in MACHINES:
                    expected = [0] if fits(weight, components) else [-3]
                    self.assertEqual(ask(new(components), poke(number, content))[1], expected, (number, lane))

    def test_zeros_are_no_component_in_use(self):
        for components in MACHINES:
            held = any_registers(712, components)
            for number in range(48):
                count = 8 if number < 32 else 1
                after = hold_words(held, number, [0] * count)
                answered = ask(load(components, held.short()), poke(number, bytes_of()), save())
                self.assertEqual(answered[1], [0])
                self.assertEqual(answered[2][1:], after.long(components))

    def test_one_lane_too_many(self):
        for components, count in ((3, 2), (7, 4)):
            held = any_registers(713, components)
            for lane in range(count, 8):
                words = [9] * count + [0] * (lane - count) + [1]
                answered = ask(load(components, held.short()), poke(6, bytes_of(*words)), peek(6), peek(48))
                self.assertEqual(answered[1:], [[-3], [0] + bytes_of(*held.v[6]), [0] + bytes_of(components, components)])

    def test_an_error_leaves_the_machine_unchanged(self):
        for components in (3, 7):
            held = any_registers(714, components)
            whole = held.long(components)
            for call, code in ((poke(48, bytes_of()), -1), (poke(32, bytes_of(1, 1)), -2), (poke(45, [255] * 64), -2),
                               (poke(0, [255] * 64), -3), (poke(16, bytes_of(1)), -3), (poke(40, bytes_of(1)), -3)):
                answered = ask(load(components, whole), call, save(), run([[15, 0, 0, 1, 0, 0]], 0, 0), save())
                self.assertEqual(answered[1:], [[code], [len(whole)] + whole, [0], [len(whole)] + whole])


class Order(unittest.TestCase):
    """Each error ahead of all that are listed behind it."""

    def test_the_number_comes_first(self):
        for components in MACHINES:
            for number in BEYOND:
                self.assertEqual(ask(new(components), poke(number, [1] * 64))[1], [-1])

    def test_the_other_bytes_come_before_the_components(self):
        for components in (3, 7):
            for number in range(40, 48):
                self.assertEqual(ask(new(components), poke(number, bytes_of(1, 1)))[1], [-2])
                self.assertEqual(ask(new(components), poke(number, bytes_of(0, 0, 0, 0, 0, 0, 0, 1)))[1], [-2])
                self.assertEqual(ask(new(components), poke(number, bytes_of(1)))[1], [-3])


if __name__ == "__main__":
    unittest.main()
