"""The requirements 1 to 6, over the whole program, asked through its calls alone."""

import unittest

from support import (MACHINES, USED, Registers, all_forms, any_code, any_instruction, any_registers, any_word, ask,
                     bytes_of, differ, expected_run, fits, held_words, hold_words, load, machines_for, new,
                     number_source, peek, poke, run, save, turn, weight_of)

PEEKS = [peek(number) for number in range(49)]


def seen(content, components):
    """All that peek tells of a checkpoint on a machine."""
    answered = ask(load(components, content), *PEEKS)
    assert answered[0] == [0], answered[0]
    return answered[1:]


def checkpoints_of(answered):
    """The bytes of an answer that tells a checkpoint, with its length looked at."""
    assert answered[0] == len(answered) - 1, answered[0]
    return answered[1:]


def wide_enough(components):
    """The machines that have all components of this one."""
    return [other for other in MACHINES if fits(components, other)]


class CutRuns(unittest.TestCase):
    """1: some instructions and then others are the same as all of them at once."""

    def program(self, components, seed):
        """A code that goes round three times, whatever else it does."""
        code = any_code(number_source(seed), 10, components)
        code = [six if six[0] not in (14, 15, 16, 21, 23) else [15, 0, 0, six[3] % 7, 5, 4] for six in code]
        return code + [[23, 0, 0, 7, 10, 0]]

    def test_cut_after_any_number(self):
        for components in MACHINES:
            for seed in (900, 901, 902):
                code = self.program(components, seed)
                held = hold_words(any_registers(seed, components), 39, [3])
                content = held.long(components)
                whole = ask(load(components, content), run(code, 0, 200), *PEEKS)
                self.assertEqual(whole[1], [11])
                for first in range(35):
                    stop = ask(load(components, content), run(code, 0, first))[1][0]
                    cut = ask(load(components, content), run(code, 0, first), run(code, stop, 200), *PEEKS)
                    self.assertEqual(cut[2:], whole[1:], (components, seed, first))

    def test_cut_twice_with_other_calls_in_between(self):
        code = self.program(231, 903)
        held = hold_words(any_registers(903), 39, [3])
        content = held.short()
        whole = ask(load(231, content), run(code, 0, 200), save())
        for first, second in ((0, 0), (1, 1), (5, 12), (11, 11), (13, 17)):
            after_one = expected_run(held, code, 0, first)[1]
            after_two = expected_run(held, code, 0, first + second)[1]
            cut = ask(load(231, content), run(code, 0, first), peek(48), save(10), poke(48, [0] * 64), new(4),
                      run(code, after_one, second), turn(content, 7), differ(content, content), load(3, content),
                      run(code, after_two, 200), save())
            self.assertEqual(cut[-2:], whole[1:])

    def test_cut_with_a_checkpoint_in_any_form_on_any_machine(self):
        for made_for in MACHINES:
            code = self.program(made_for, 904)
            held = hold_words(any_registers(904, made_for), 39, [3])
            whole = ask(load(made_for, held.short()), run(code, 0, 200), save(form=1))[2]
            for here in wide_enough(made_for):
                for there in wide_enough(made_for):
                    for form in (0, 1):
                        for first in (1, 11, 16):
                            one = ask(load(here, held.short()), run(code, 0, first), save(form=form))
                            turned = ask(turn(checkpoints_of(one[2]), there, form))[0]
                            answered = ask(load(there, checkpoints_of(turned)), run(code, one[1][0], 200),
                                           save(form=1))
                            self.assertEqual(answered[1:], [[11], whole])


class Reading(unittest.TestCase):
    """2: reading a checkpoint of a state gives this state."""

    def test_what_was_poked_is_seen_behind_a_checkpoint(self):
        source = number_source(910)
        for components, lanes in ((3, 2), (7, 4), (231, 8)):
            held = Registers()
            calls = [new(components)]
            numbers = range(48) if components == 231 else list(range(16)) + list(range(32, 40))
            for number in numbers:
                words = [any_word(source) for _ in range(lanes)] + [0] * (8 - lanes)
                words = words if number < 32 else words[:1]
                held = hold_words(held, number, words)
                calls.append(poke(number, bytes_of(*words)))
            answered = ask(*calls, save(form=0), save(form=1))
            self.assertEqual(answered[:-2], [[0]] * len(calls))
            expected = [[0] + bytes_of(*held_words(held, number)) for number in range(48)]
            for saved in answered[-2:]:
                for there in wide_enough(components):
                    told = [[0] + bytes_of(held.used(), there)]
                    self.assertEqual(seen(checkpoints_of(saved), there), expected + told)

    def test_each_sum_of_weights_in_every_form(self):
        for used in USED:
            held = any_registers(920 + used, used)
            expected = [[0] + bytes_of(*held_words(held, number)) for number in range(48)]
            for content in all_forms(held):
                self.assertEqual(seen(content, 231)[:48], expected, used)

    def test_turning_there_and_back(self):
        for used in USED:
            content = any_registers(990 + used, used).short()
            for components in wide_enough(used):
                long = checkpoints_of(ask(turn(content, components, 0))[0])
                self.assertEqual(checkpoints_of(ask(turn(long, components, 1))[0]), content)
                self.assertEqual(checkpoints_of(ask(turn(long, components, 0))[0]), long)


class Components(unittest.TestCase):
    """3: instructions that a machine can execute use no component that it does not have."""

    def check(self, components, code):
        held = any_registers(1100, components)
        answered = ask(load(components, held.short()), run(code, 0, 300), *PEEKS)
        self.assertEqual(answered[0], [0])
        if answered[1] == [-3]:
            return
        used = answered[2 + 48][1] + 256 * answered[2 + 48][2]
        self.assertTrue(fits(used, components), (components, code))
        for number in range(48):
            for lane in range(8 if number < 32 else 1):
                if not fits(weight_of(number, lane), components):
                    self.assertEqual(answered[2 + number][1 + 8 * lane:9 + 8 * lane], [0] * 8, (number, lane))

    def test_any_code(self):
        for components in MACHINES:
            for seed in range(1110, 1140):
                self.check(components, any_code(number_source(seed), 40, components))

    def test_any_instruction_of_all_there_are(self):
        # Most of these are refused by the narrow machines; none of them may slip through.
        for components in (3, 7):
            source = number_source(1101)
            for _ in range(400):
                six = any_instruction(source, 0)
                refused = ask(new(components), run([six], 0, 0))[1] == [-3]
                self.assertEqual(refused, components not in machines_for(six), six)
                self.check(components, [six])

    def test_no_call_makes_a_component_that_the_machine_lacks(self):
        many = any_registers(1102).short()
        for components in (3, 7):
            calls = [load(components, many), turn(many, components, 0), turn(many, components, 1)]
            calls += [poke(number, [255] * 64) for number in range(32)]
            calls += [poke(number, bytes_of(1)) for number in range(40, 48)]
            answered = ask(new(components), *calls, peek(48))
            self.assertEqual(answered[1:-1], [[-3]] * len(calls))
            self.assertEqual(answered[-1], [0] + bytes_of(0, components))


class OtherMachines(unittest.TestCase):
    """4: the result of run does not depend on the machine, if both can execute the instructions."""

    def test_any_code_on_all_machines_that_can_execute_it(self):
        for seed in range(1200, 1260):
            source = number_source(seed)
            made_for = source.choice(MACHINES[:2])
            code = any_code(source, 25, made_for)
            content = any_registers(seed, source.choice([made_for, 3, 1, 2])).short()
            for most in (0, 1, 7, 25, 60):
                results = [ask(load(components, content), run(code, 0, most), *PEEKS[:48], save(form=1))
                           for components in wide_enough(made_for)]
                for result in results:
                    self.assertEqual(result, results[0], (seed, most))

    def test_refused_or_the_same(self):
        source = number_source(1201)
        for _ in range(300):
            code = [any_instruction(source, 0)]
            content = any_registers(1202, 3).short()
            results = [ask(load(components, content), run(code), save(form=1))[1:] for components in MACHINES]
            self.assertEqual(results[2][0], [1])
            for result in results:
                if result[0] != [-3]:
                    self.assertEqual(result, results[2], code)


class Lengths(unittest.TestCase):
    """5: the short form is never longer than a long form of the same state."""

    def test_each_sum_of_weights_on_each_machine(self):
        for used in USED:
            content = any_registers(1300 + used, used).short()
            for components in wide_enough(used):
                short, long = ask(turn(content, components, 1), turn(content, components, 0))
                self.assertLessEqual(short[0], long[0])
                self.assertEqual((short[0], long[0]), (len(short) - 1, len(long) - 1))
                saved = ask(load(components, content), save(form=1), save(form=0))[1:]
                self.assertEqual(saved, [short, long])

    def test_room_for_a_long_form_is_room_for_the_short_one(self):
        for used in (0, 3, 4, 7, 36, 228, 231):
            content = any_registers(1370 + used, used).short()
            for components in wide_enough(used):
                room = {3: 576, 7: 832, 231: 2688}[components]
                short, long = ask(turn(content, components, 1, room), turn(content, components, 0, room))
                self.assertEqual((short[0], long[0]), (len(content), room))


class Same(unittest.TestCase):
    """6: differ returns 0 exactly for checkpoints of the same state."""

    def test_every_two_forms_of_one_state(self):
        for used in USED:
            content = any_registers(1400 + used, used).short()
            forms = [checkpoints_of(ask(turn(content, components, form))[0])
                     for components in wide_enough(used) for form in (0, 1)]
            for one in forms:
                for other in forms:
                    self.assertEqual(ask(differ(one, other)), [[0]])

    def test_one_register_poked_and_set_back(self):
        held = any_registers(1470)
        content = held.short()
        for number in range(48):
            words = held_words(held, number)
            for lane in range(len(words)):
                other = words[:lane] + [words[lane] ^ 2 ** (lane * 7 + 3)] + words[lane + 1:]
                answered = ask(load(231, content), poke(number, bytes_of(*other)), save(form=lane % 2),
                               poke(number, bytes_of(*words)), save(form=1 - lane % 2))
                poked, back = checkpoints_of(answered[2]), checkpoints_of(answered[4])
                found = ask(differ(content, poked), differ(poked, back), differ(back, content))
                weight = weight_of(number, lane)
                self.assertEqual(found, [[weight], [weight], [0]], (number, lane))

    def test_it_is_0_just_where_peek_sees_the_same(self):
        source = number_source(1471)
        states = [any_registers(1480 + seed, source.choice(USED)) for seed in range(6)] + [Registers()]
        states += [state.copy() for state in states[:2]] + [any_registers(1480, states[0].used())]
        views = [seen(state.short(), 231)[:48] for state in states]
        for one in range(len(states)):
            for other in range(len(states)):
                found = ask(differ(states[one].short(), states[other].long(231)))[0][0]
                self.assertEqual(found == 0, views[one] == views[other])


if __name__ == "__main__":
    unittest.main()
