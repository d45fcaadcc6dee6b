"""Operation 4: turn."""

import unittest

from support import (MACHINES, USED, Registers, all_forms, any_registers, ask, changed, fits, load, new, save, turn)

BEYOND = (2, 3, 255, 256, 2 ** 31, 2 ** 32 - 1)
NO_MACHINES = (0, 1, 2, 4, 5, 6, 8, 32, 39, 103, 230, 232, 255, 256 + 3, 2 ** 31 + 7, 2 ** 32 - 1)


def told(content):
    """The answer that tells a checkpoint."""
    return [len(content)] + content


class Forms(unittest.TestCase):

    def test_every_form_into_every_other(self):
        for used in USED:
            held = any_registers(400 + used, used)
            for content in all_forms(held):
                for components in MACHINES:
                    if fits(used, components):
                        self.assertEqual(ask(turn(content, components, 0)), [told(held.long(components))])
                        self.assertEqual(ask(turn(content, components, 1)), [told(held.short())])

    def test_a_state_of_zeros(self):
        for content in all_forms(Registers()):
            for components, length in ((3, 576), (7, 832), (231, 2688)):
                answered = ask(turn(content, components, 0))[0]
                self.assertEqual(answered, told(Registers().long(components)))
                self.assertEqual(answered[0], length)
                self.assertEqual(ask(turn(content, components, 1)), [told(Registers().short())])

    def test_the_short_form_is_the_same_for_every_machine(self):
        held = any_registers(470, 3)
        answered = [ask(turn(held.long(7), components, 1))[0] for components in MACHINES]
        self.assertEqual(answered, [told(held.short())] * 3)

    def test_byte_by_byte(self):
        held = Registers()
        held.v[5][3] = 0x0807060504030201
        content = ask(turn(held.short(), 7, 0))[0]
        self.assertEqual(content[0], 832)
        expected = {0: 127, 1: 3, 24: 128, 25: 31, 28: 255, 29: 255, 512: 4}
        expected.update({576 + 88 + i: i + 1 for i in range(8)})
        self.assertEqual({at: byte for at, byte in enumerate(content[1:]) if byte}, expected)
        content = ask(turn(held.long(231), 7, 1))[0]
        self.assertEqual(content[0], 832)
        expected.update({520: 4, 527: 128})
        self.assertEqual({at: byte for at, byte in enumerate(content[1:]) if byte}, expected)

    def test_ahead_of_any_new_or_load(self):
        held = any_registers(471)
        answered = ask(turn(held.long(231), 231, 1), new(5), turn(held.short(), 231, 0), turn([], 3))
        self.assertEqual(answered, [told(held.short()), [-1], told(held.long(231)), [-2]])

    def test_the_current_machine_is_not_used(self):
        held, other = any_registers(472, 7), any_registers(473)
        for components in MACHINES:
            answered = ask(new(components), turn(other.short(), 231, 0), turn(held.short(), 7, 0))
            self.assertEqual(answered[1:], [told(other.long(231)), told(held.long(7))])
        # A wide machine does not help where the one that is asked for is narrow.
        self.assertEqual(ask(new(231), turn(held.short(), 3, 1))[1], [-3])

    def test_the_current_machine_stays_as_it_is(self):
        held, other = any_registers(474, 7), any_registers(475)
        whole = held.long(7)
        for call in (turn(other.short(), 231, 0), turn(other.short(), 231, 1), turn(held.long(7), 7, 1),
                     turn(Registers().short(), 3, 0), turn(other.short(), 7), turn([1, 2], 7), turn(whole, 9),
                     turn(whole, 7, 2), turn(whole, 7, 0, 831)):
            answered = ask(load(7, whole), call, save())
            self.assertEqual((answered[0], answered[2]), ([0], told(whole)))


class Errors(unittest.TestCase):

    def test_the_form(self):
        content = any_registers(480, 3).short()
        for form in BEYOND:
            for components in MACHINES:
                self.assertEqual(ask(turn(content, components, form)), [[-1]])

    def test_there_is_no_such_machine(self):
        content = Registers().short()
        for components in NO_MACHINES:
            for form in (0, 1):
                self.assertEqual(ask(turn(content, components, form)), [[-1]])

    def test_n_above_what_a_checkpoint_can_have(self):
        for n in (2689, 4096, 2 ** 31, 2 ** 32 - 1):
            for components in MACHINES:
                for form in (0, 1):
                    self.assertEqual(ask(turn([], components, form, n=n)), [[-2]])
        content = any_registers(481).long(231)
        self.assertEqual(ask(turn(content, 231)), [told(content)])

    def test_bytes_that_are_no_checkpoint(self):
        for held in (any_registers(482), any_registers(483, 3), Registers()):
            for content in all_forms(held):
                for form in (0, 1):
                    for other in ([], content[:-1], content[:64], [0] * len(content), content[:512]):
                        self.assertEqual(ask(turn(other, 231, form)), [[-2]])
                    if len(content) < 2688:
                        self.assertEqual(ask(turn(content + [0], 231, form)), [[-2]])

    def test_a_checkpoint_in_all_but_one_byte(self):
        fixed = list(range(0, 32)) + [40, 41, 42, 47, 152, 153, 159, 416, 511] + list(range(512, 576))
        for held in (any_registers(484), any_registers(485, 6), Registers()):
            forms = all_forms(held)
            for content in forms:
                for at in fixed:
                    other = changed(content, at, content[at] ^ 4)
                    self.assertEqual(ask(turn(other, 231, 1)), [[-2]], at)

    def test_each_missing_component(self):
        for used in USED:
            held = any_registers(500 + used, used)
            for components in MACHINES:
                if not fits(used, components):
                    for content in all_forms(held):
                        for form in (0, 1):
                            self.assertEqual(ask(turn(content, components, form)), [[-3]], (used, components))

    def test_room(self):
        for components in MACHINES:
            held = any_registers(486, components)
            for content in all_forms(held):
                for form in (0, 1):
                    output = held.short() if form else held.long(components)
                    length = len(output)
                    for room in (length, length + 1, 2 ** 32 - 1):
                        self.assertEqual(ask(turn(content, components, form, room)), [told(output)])
                    for room in (0, 1, 575, length - 1):
                        self.assertEqual(ask(turn(content, components, form, room)), [[-4]])

    def test_room_is_asked_for_the_form_that_is_written(self):
        short = Registers().short()
        long = Registers().long(231)
        self.assertEqual(ask(turn(long, 231, 1, 576)), [told(short)])
        self.assertEqual(ask(turn(long, 231, 1, 575)), [[-4]])
        self.assertEqual(ask(turn(short, 231, 0, 2687)), [[-4]])
        self.assertEqual(ask(turn(short, 7, 0, 831), turn(short, 7, 0, 832)), [[-4], told(Registers().long(7))])


class Order(unittest.TestCase):
    """Each error ahead of all that are listed behind it."""

    def setUp(self):
        self.many = any_registers(490).short()
        self.broken = changed(self.many, 5, 1)

    def test_the_range_comes_first(self):
        for form, components in ((2, 231), (2, 3), (0, 4), (1, 4), (2, 4)):
            self.assertEqual(ask(turn(self.broken, components, form, 0)), [[-1]])
            self.assertEqual(ask(turn(self.many, components, form, 0)), [[-1]])
            self.assertEqual(ask(turn([], components, form, 0, n=2689)), [[-1]])

    def test_then_the_bytes(self):
        for form in (0, 1):
            for components in MACHINES:
                self.assertEqual(ask(turn(self.broken, components, form, 0)), [[-2]])
                self.assertEqual(ask(turn([], components, form, 0, n=2689)), [[-2]])

    def test_then_the_components(self):
        for form in (0, 1):
            for components in (3, 7):
                self.assertEqual(ask(turn(self.many, components, form, 0)), [[-3]])
            self.assertEqual(ask(turn(self.many, 231, form, 0)), [[-4]])


if __name__ == "__main__":
    unittest.main()
