"""Operation 3: load."""

import unittest

from support import (MACHINES, USED, Registers, all_forms, any_registers, ask, changed, fits, load, new, number_source,
                     registers_of, run, save)


def with_word(content, at, word):
    return content[:at] + list(word.to_bytes(8, "little")) + content[at + 8:]


class Forms(unittest.TestCase):

    def test_every_form_on_every_machine(self):
        for used in USED:
            held = any_registers(200 + used, used)
            for content in all_forms(held):
                for components in MACHINES:
                    answered = ask(new(7), load(components, content), save())
                    if fits(used, components):
                        whole = held.long(components)
                        self.assertEqual(answered[1:], [[0], [len(whole)] + whole])
                    else:
                        self.assertEqual(answered[1:], [[-3], [832] + Registers().long(7)])

    def test_a_state_of_zeros(self):
        for content in all_forms(Registers()):
            for components in MACHINES:
                self.assertEqual(ask(load(components, content), save(form=1))[1][1:], Registers().short())

    def test_reading_what_was_written_gives_the_state(self):
        for seed in range(300, 320):
            held = any_registers(seed, number_source(seed).choice(USED))
            for form in (0, 1):
                saved = ask(load(231, held.long(231)), save(form=form))[1]
                again = ask(load(231, saved[1:]), save())[1]
                self.assertEqual(registers_of(again[1:]).parts(), held.parts())

    def test_it_makes_a_machine_with_these_components(self):
        held = any_registers(80, 3)
        wide = [[0, 2, 0, 0, 0, 0]]
        middle = [[0, 1, 0, 0, 0, 0]]
        for before in MACHINES:
            for content in all_forms(held):
                self.assertEqual(ask(new(before), load(3, content), run(middle))[2], [-3])
                self.assertEqual(ask(new(before), load(7, content), run(middle), run(wide))[2:], [[1], [-3]])
                self.assertEqual(ask(new(before), load(231, content), run(wide))[2], [1])

    def test_it_replaces_the_whole_state(self):
        many = any_registers(81, 231)
        few = any_registers(82, 2)
        answered = ask(load(231, many.long(231)), load(231, few.short()), save(), load(231, many.short()), save())
        self.assertEqual(answered[2][1:], few.long(231))
        self.assertEqual(answered[4][1:], many.long(231))


class Errors(unittest.TestCase):

    def test_there_is_no_such_machine(self):
        content = Registers().short()
        for components in (0, 1, 2, 4, 6, 8, 35, 230, 232, 255, 256 + 3, 2 ** 32 - 1):
            self.assertEqual(ask(load(components, content)), [[-1]])

    def test_the_machine_is_looked_at_first(self):
        many = any_registers(83).short()
        self.assertEqual(ask(load(4, [1, 2, 3])), [[-1]])
        self.assertEqual(ask(load(4, [], n=2689)), [[-1]])
        self.assertEqual(ask(load(1, many)), [[-1]])

    def test_the_bytes_are_looked_at_before_the_components(self):
        many = any_registers(84).short()
        self.assertEqual(ask(load(3, many)), [[-3]])
        self.assertEqual(ask(load(3, changed(many, 5, 1))), [[-2]])
        self.assertEqual(ask(load(3, many + [0])), [[-2]])

    def test_n_above_what_a_checkpoint_can_have(self):
        for n in (2689, 4096, 2 ** 31, 2 ** 32 - 1):
            for components in MACHINES:
                self.assertEqual(ask(load(components, [], n=n)), [[-2]])
        self.assertEqual(ask(load(231, any_registers(85).long(231))), [[0]])

    def test_each_missing_component(self):
        for weight, refusing in ((4, (3,)), (32, (3, 7)), (64, (3, 7)), (128, (3, 7))):
            held = any_registers(86, weight)
            for content in all_forms(held):
                for components in MACHINES:
                    expected = [-3] if components in refusing else [0]
                    self.assertEqual(ask(load(components, content)), [expected])

    def test_an_error_leaves_the_machine_unchanged(self):
        many = any_registers(87).short()
        for components in MACHINES:
            held = any_registers(88, components)
            whole = held.long(components)
            for call, code in ((load(5, many), -1), (load(3, [], n=3000), -2), (load(231, many[:-1]), -2),
                               (load(7, many), -3), (load(3, many), -3)):
                answered = ask(load(components, whole), call, save())
                self.assertEqual(answered, [[0], [code], [len(whole)] + whole])


class NoCheckpoint(unittest.TestCase):
    """Every kind of change that makes the bytes no checkpoint."""

    def refuse(self, content, note=None):
        self.assertEqual(ask(load(231, content)), [[-2]], note)

    def test_every_length(self):
        for used in (0, 1, 3, 7, 32, 231):
            held = any_registers(90, used)
            for content in all_forms(held):
                for length in list(range(0, len(content), 61)) + [8, 512, 520, 528, 575, 576, 832, len(content) - 1]:
                    if length < len(content) and content[:length] not in all_forms(held):
                        self.refuse(content[:length], (used, length))
                for more in (1, 8, 64, 256, 512):
                    longer = content + [0] * more
                    if len(longer) <= 2688 and longer not in all_forms(held):
                        self.refuse(longer)
                        self.refuse(content + [1] * more)

    def test_a_long_form_has_one_of_three_lengths(self):
        whole = Registers().long(231)
        for length in range(0, 2689):
            expected = [0] if length in (576, 832, 2688) else [-2]
            self.assertEqual(ask(load(231, whole[:length])), [expected], length)

    def test_every_fixed_byte(self):
        fixed = list(range(0, 32)) + list(range(416, 512)) + list(range(528, 576))
        fixed += [32 + 16 * number + at for number in range(8) for at in range(8, 16)]
        for held in (any_registers(91, 231), any_registers(92, 230), any_registers(93, 3), Registers()):
            for content in all_forms(held):
                for at in fixed:
                    for byte in {0, 1, 127, 128, 254, 255, content[at] ^ 1} - {content[at]}:
                        self.refuse(changed(content, at, byte), at)

    def test_every_byte_between_the_lanes_and_k(self):
        content = any_registers(94).long(231)
        for at in range(832, 1088):
            for byte in (1, 128, 255):
                self.refuse(changed(content, at, byte), at)

    def test_the_marks_of_component_0(self):
        used, unused = any_registers(95, 3), any_registers(96, 2)
        marks = [4] + [32 + 16 * number + at for number in range(8) for at in (8, 9)]
        for content in all_forms(used):
            without = content
            for at in marks:
                without = changed(without, at, 0)
            self.refuse(without)
        for content in all_forms(unused):
            marked = content
            for at in marks:
                marked = changed(marked, at, 255)
            self.refuse(marked)
            # A register alone, without its marks and its weight.
            self.refuse(changed(content, 32, 1))

    def test_a_register_whose_component_is_not_told(self):
        for content in all_forms(any_registers(97, 1)):
            self.refuse(changed(content, 160, 1))
            self.refuse(changed(content, 415, 1))
        held = any_registers(98, 1)
        self.refuse(changed(held.long(7), 576, 1))
        self.refuse(changed(held.long(7), 831, 1))
        for at in (576, 831, 1088, 1151, 1152, 1663, 1664, 2687):
            self.refuse(changed(held.long(231), at, 1), at)

    def test_every_sum_of_weights(self):
        for used in (0, 1, 2, 3, 4, 7, 32, 39, 96, 224, 231):
            held = any_registers(99, used)
            for content in all_forms(held):
                for word in list(range(256)) + [used + 256, used + 2 ** 32, used + 2 ** 63]:
                    if word != used:
                        self.refuse(with_word(content, 512, word), word)

    def test_every_word_behind_it(self):
        for used in (0, 1, 3, 7, 231):
            held = any_registers(101, used)
            for content in all_forms(held):
                for word in [0, 1, used, used + 1, 2 ** 63 + used + 1, 2 ** 63 + used + 8, 2 ** 62 + used,
                             2 ** 64 - 1, 2 ** 63] + [2 ** 63 + weight for weight in range(256)]:
                    other = with_word(content, 520, word)
                    # Both forms of a state may differ in this word alone.
                    expected = [0] if other in all_forms(held) else [-2]
                    self.assertEqual(ask(load(231, other)), [expected], word)

    def test_both_words_together(self):
        held = any_registers(102, 7)
        for used in range(256):
            if used != 7:
                content = with_word(with_word(held.short(), 512, used), 520, 2 ** 63 + used)
                self.refuse(content, used)

    def test_the_short_form_has_no_component_that_is_0(self):
        sizes = {4: 256, 32: 64, 64: 512, 128: 1024}
        for weight, size in sizes.items():
            for used in (0, 3):
                content = any_registers(103, used).short()
                told = with_word(with_word(content, 512, used + weight), 520, 2 ** 63 + used + weight)
                self.refuse(told + [0] * size, weight)
                self.refuse(content + [0] * size, weight)
        everything = any_registers(104, 231).short()
        at = 576
        for weight, size in sizes.items():
            self.refuse(everything[:at] + [0] * size + everything[at + size:], weight)
            at += size

    def test_a_component_told_as_another_one(self):
        content = any_registers(105, 4).short()
        for weight in (1, 2, 32, 64, 128):
            self.refuse(with_word(with_word(content, 512, weight), 520, 2 ** 63 + weight), weight)

    def test_the_long_form_has_a_place_for_each_component_in_use(self):
        for used, length in ((4, 576), (7, 576), (32, 576), (32, 832), (39, 832), (64, 832), (128, 832), (231, 832),
                             (231, 576)):
            held = any_registers(106, used)
            self.refuse(held.long(231)[:length], (used, length))
            self.refuse(list(held.head(0)), used)

    def test_other_bytes_of_registers_make_another_checkpoint(self):
        held = any_registers(107)
        for content in all_forms(held):
            for at in (32, 39, 160, 415, 576, len(content) - 1):
                other = changed(content, at, content[at] ^ 2)
                self.assertEqual(ask(load(231, other), save(form=1 if content[527] else 0))[1][1:], other)


if __name__ == "__main__":
    unittest.main()
