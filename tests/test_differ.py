"""Operation 7: differ."""

import unittest

from support import (MACHINES, TOP, USED, Registers, all_forms, any_registers, ask, changed, differ, held_words,
                     hold_words, load, new, save, weight_of)


def mixed(one, other, weights):
    """The first registers, but those of the second in these components."""
    found = one.copy()
    if weights & 1:
        found.m = other.m[:]
    if weights & 32:
        found.k = other.k[:]
    for number in range(32):
        for lane in range(8):
            if weights & weight_of(number, lane):
                found.v[number][lane] = other.v[number][lane]
    return found


class Weights(unittest.TestCase):

    def test_the_same_state_in_every_two_forms(self):
        for used in USED:
            held = any_registers(800 + used, used)
            for one in all_forms(held):
                for other in all_forms(held):
                    self.assertEqual(ask(differ(one, other)), [[0]])

    def test_each_sum_of_weights(self):
        one, other = any_registers(870), any_registers(871)
        for weights in USED:
            both = mixed(one, other, weights)
            self.assertEqual(ask(differ(one.short(), both.long(231))), [[weights]])
            self.assertEqual(ask(differ(both.short(), one.short())), [[weights]])

    def test_against_zeros_it_is_what_is_in_use(self):
        for used in USED:
            held = any_registers(880 + used, used)
            for content in all_forms(held):
                for zeros in all_forms(Registers()):
                    self.assertEqual(ask(differ(content, zeros), differ(zeros, content)), [[used], [used]])

    def test_components_that_both_have_in_use(self):
        one, other = any_registers(872, 7), any_registers(873, 39)
        self.assertEqual(ask(differ(one.long(7), other.long(231)))[0], [39])
        self.assertEqual(ask(differ(one.long(7), mixed(other, one, 3).short()))[0], [36])

    def test_one_bit_of_each_word(self):
        held = any_registers(874)
        content = held.short()
        for number in range(48):
            words = held_words(held, number)
            for lane in range(len(words)):
                for bit in (0, 63):
                    other = hold_words(held, number, words[:lane] + [words[lane] ^ 1 << bit] + words[lane + 1:])
                    self.assertEqual(ask(differ(content, other.short())), [[weight_of(number, lane)]],
                                     (number, lane))

    def test_words_that_have_changed_places(self):
        one, other = Registers(), Registers()
        one.m[0], other.m[1] = TOP, TOP
        one.v[4][0], other.v[4][2] = 5, 5
        one.v[16][0], other.v[16][1] = 6, 6
        self.assertEqual(ask(differ(one.short(), other.short()))[0], [1 + 2 + 4 + 128])

    def test_the_second_bytes_begin_behind_the_first(self):
        few, many = any_registers(875, 2), any_registers(876)
        for one, other, weights in ((few, many, 231), (many, few, 231), (few, few, 0), (many, many, 0)):
            for first in all_forms(one):
                for second in all_forms(other):
                    self.assertEqual(ask(differ(first, second)), [[weights]])

    def test_ahead_of_any_new_or_load(self):
        one, other = any_registers(877, 5), any_registers(878, 5)
        answered = ask(differ(one.long(7), other.short()), new(4), differ(one.short(), one.long(231)), differ([], []))
        self.assertEqual(answered, [[5], [-1], [0], [-2]])

    def test_the_current_machine_is_neither_used_nor_changed(self):
        one, other = any_registers(879), mixed(any_registers(879), Registers(), 97)
        for components in MACHINES:
            held = any_registers(868, components)
            whole = held.long(components)
            answered = ask(load(components, whole), differ(one.short(), other.short()),
                           differ(one.short(), one.short()[1:]), save())
            self.assertEqual(answered[1:], [[97], [-2], [len(whole)] + whole])


class Errors(unittest.TestCase):

    def setUp(self):
        self.fine = any_registers(890, 3).short()

    def refuse(self, *given, **counts):
        self.assertEqual(ask(differ(*given, **counts)), [[-2]])

    def test_a_count_above_what_a_checkpoint_can_have(self):
        for n in (2689, 4096, 2 ** 31, 2 ** 32 - 1):
            self.refuse([], self.fine, n1=n)
            self.refuse(self.fine, [], n2=n)
            self.refuse([], [], n1=n, n2=n)
            self.refuse([], [], n1=n)
            self.refuse([], [], n2=n)
            for whole in (any_registers(891).long(231), Registers().long(231)):
                self.refuse([], whole, n1=n)
                self.refuse(whole, [], n2=n)

    def test_the_greatest_counts_that_there_are(self):
        one, other = any_registers(892).long(231), any_registers(893).long(231)
        self.assertEqual(ask(differ(one, other), differ(one, one)), [[231], [0]])

    def test_no_bytes(self):
        self.refuse([], [])
        self.refuse(self.fine, [])
        self.refuse([], self.fine)

    def test_the_counts_tell_where_to_part(self):
        short, long = self.fine, any_registers(890, 3).long(7)
        for moved in (1, -1, 8, 256):
            self.refuse(short, long, n1=len(short) + moved, n2=len(long) - moved)
        self.refuse(short, long, n1=len(long), n2=len(short))
        self.refuse(short, long, n1=len(short) + len(long), n2=0)
        self.refuse(short, long, n1=0, n2=len(short) + len(long))

    def test_either_is_a_checkpoint_in_all_but_one_byte(self):
        fixed = list(range(0, 32)) + [40, 41, 42, 47, 152, 153, 159, 416, 511] + list(range(512, 576))
        for held in (any_registers(894), any_registers(895, 6), Registers()):
            for content in all_forms(held):
                for at in fixed:
                    broken = changed(content, at, content[at] ^ 4)
                    self.refuse(broken, self.fine)
                    self.refuse(self.fine, broken)

    def test_both_are_the_same_but_no_checkpoint(self):
        for broken in ([], [0], [127, 3, 0, 0], [0] * 576, self.fine[:-1], self.fine + [0],
                       changed(self.fine, 8, 1), changed(self.fine, 512, 1)):
            self.refuse(broken, broken)

    def test_either_has_a_byte_too_few_or_too_many(self):
        for content in all_forms(any_registers(896)) + all_forms(any_registers(897, 7)):
            self.refuse(content[:-1], self.fine)
            self.refuse(self.fine, content[:-1])
            if len(content) < 2688:
                self.refuse(content + [0], self.fine)
                self.refuse(self.fine, content + [0])


if __name__ == "__main__":
    unittest.main()
