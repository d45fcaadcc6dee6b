"""Operation 2: save."""

import unittest

from support import MACHINES, USED, Registers, any_registers, ask, fits, load, new, run, save


class Forms(unittest.TestCase):

    def test_the_long_form_for_each_machine(self):
        for components in MACHINES:
            for used in USED:
                if fits(used, components):
                    held = any_registers(60 + used, used)
                    saved = ask(load(components, held.short()), save(form=0))[1]
                    content = held.long(components)
                    self.assertEqual(len(content), {3: 576, 7: 832, 231: 2688}[components])
                    self.assertEqual(saved, [len(content)] + content)

    def test_the_short_form_with_each_component_in_use_or_not(self):
        sizes = {4: 256, 32: 64, 64: 512, 128: 1024}
        for used in USED:
            held = any_registers(60 + used, used)
            content = held.short()
            self.assertEqual(len(content), 576 + sum(size for weight, size in sizes.items() if used & weight))
            for components in MACHINES:
                if fits(used, components):
                    saved = ask(load(components, held.long(components)), save(form=1))[1]
                    self.assertEqual(saved, [len(content)] + content)

    def test_the_short_form_is_never_longer(self):
        for used in USED:
            for components in MACHINES:
                if fits(used, components):
                    held = any_registers(used, used)
                    answered = ask(load(components, held.short()), save(form=0), save(form=1))
                    self.assertLessEqual(answered[2][0], answered[1][0])

    def test_byte_by_byte(self):
        held = Registers()
        held.m[0] = 0x0807060504030201
        held.v[1][1] = 0xA1
        held.v[0][2] = 0xB2
        held.v[2][7] = 0xC3
        held.k[1] = 0xD4
        held.v[31][7] = 0xE5
        content = ask(load(231, held.short()), save())[1][1:]
        expected = {0: 127, 1: 3, 4: 255, 24: 128, 25: 31, 28: 255, 29: 255, 176 + 8: 0xA1, 512: 231, 576: 0xB2,
                    1088 + 8: 0xD4, 1152 + 64 + 24: 0xC3, 2680: 0xE5}
        for i in range(8):
            expected[32 + i] = i + 1
            expected[32 + 16 * i + 8] = 255
            expected[32 + 16 * i + 9] = 255
        self.assertEqual({at: byte for at, byte in enumerate(content) if byte}, expected)

    def test_byte_by_byte_in_the_short_form(self):
        held = Registers()
        held.k[0] = 0x1234
        content = ask(load(231, held.short()), save(form=1))[1]
        expected = {0: 127, 1: 3, 24: 128, 25: 31, 28: 255, 29: 255, 512: 32, 520: 32, 527: 128,
                    576: 0x34, 577: 0x12}
        self.assertEqual(content[0], 640)
        self.assertEqual({at: byte for at, byte in enumerate(content[1:]) if byte}, expected)

    def test_one_bit_makes_a_component_used(self):
        places = [("m", 7, None, 1), ("v", 15, 1, 2), ("v", 0, 0, 2), ("v", 15, 3, 4), ("v", 0, 2, 4), ("k", 7, None, 32),
                  ("k", 0, None, 32), ("v", 15, 7, 64), ("v", 0, 4, 64), ("v", 16, 0, 128), ("v", 31, 7, 128)]
        for name, number, lane, weight in places:
            for value in (1, 2 ** 63):
                held = Registers()
                if lane is None:
                    getattr(held, name)[number] = value
                else:
                    held.v[number][lane] = value
                self.assertEqual(held.used(), weight)
                saved = ask(load(231, held.long(231)), save(form=1))[1]
                self.assertEqual(saved, [len(held.short())] + held.short())
                self.assertEqual(saved[1 + 512], weight)

    def test_a_component_is_no_longer_used_when_it_is_0_again(self):
        held = any_registers(70, 7)
        clear = [[3, 1, 0, number, number, number] for number in range(16)]
        saved = ask(load(7, held.long(7)), run(clear), save(form=1))[2]
        self.assertEqual(saved[0], 576)
        self.assertEqual(saved[1 + 512], 1)

    def test_it_leaves_the_machine_as_it_was(self):
        held = any_registers(71)
        answered = ask(load(231, held.long(231)), save(form=1), save(form=0), save(form=1), save(form=0))
        self.assertEqual(answered[1], answered[3])
        self.assertEqual(answered[2], answered[4])
        self.assertEqual(answered[2][1:], held.long(231))


class Errors(unittest.TestCase):

    def test_the_form(self):
        for form in (2, 3, 255, 256, 2 ** 31, 2 ** 32 - 1):
            self.assertEqual(ask(new(3), save(room=4096, form=form))[1], [-1])

    def test_the_form_is_looked_at_before_the_room(self):
        for components in MACHINES:
            self.assertEqual(ask(new(components), save(room=0, form=2))[1], [-1])

    def test_room_that_is_just_enough(self):
        for components in MACHINES:
            held = any_registers(72, components)
            for form in (0, 1):
                content = held.short() if form else held.long(components)
                length = len(content)
                loading = load(components, content)
                for room in (length, length + 1, 2 ** 32 - 1):
                    self.assertEqual(ask(loading, save(room, form))[1], [length] + content)
                for room in (0, 1, 575, length - 1):
                    self.assertEqual(ask(loading, save(room, form))[1], [-4])

    def test_room_is_asked_for_the_form_that_is_written(self):
        self.assertEqual(ask(new(231), save(2687, 0), save(576, 1), save(575, 1))[1:],
                         [[-4], [576] + Registers().short(), [-4]])

    def test_an_error_leaves_the_machine_unchanged(self):
        held = any_registers(73)
        answered = ask(load(231, held.short()), save(0, 0), save(0, 1), save(4096, 2), save(2688, 0))
        self.assertEqual(answered, [[0], [-4], [-4], [-1], [2688] + held.long(231)])


if __name__ == "__main__":
    unittest.main()
