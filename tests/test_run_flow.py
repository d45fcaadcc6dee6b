"""Operation 1: where a run begins, where it stops, and how it goes on."""

import unittest

from support import (MACHINES, Registers, any_code, any_registers, ask, expected_run, load, new, number_source,
                     registers_of, run, save)

# Adds M1 to M0, M2 times.
LOOP = [[15, 0, 0, 0, 0, 1], [23, 0, 0, 2, 1, 0]]


def loop_registers(times):
    held = Registers()
    held.m[1] = 10
    held.m[2] = times
    return held


def run_on(components, held, *calls):
    """The answers of some calls on a machine with these registers, and the registers then."""
    content = held.long(components)
    answered = ask(load(components, content), *calls, save(), save(form=1))
    reading = ask(load(231, answered[-1][1:]), save())
    return answered[1:-2], registers_of(reading[1][1:])


class Bounds(unittest.TestCase):

    def test_nothing_is_executed_from_n_on(self):
        held = loop_registers(3)
        for most in (0, 1, 1000):
            self.assertEqual(ask(load(3, held.long(3)), run(LOOP, 2, most), save())[1:],
                             [[2], [576] + held.long(3)])

    def test_an_empty_code(self):
        self.assertEqual(ask(new(3), run([], 0, 0), run([], 0, 5)), [[0], [0], [0]])
        self.assertEqual(ask(new(3), run([], 1, 0)), [[0], [-1]])

    def test_nothing_is_executed_with_most_0(self):
        held = loop_registers(3)
        for start in (0, 1, 2):
            self.assertEqual(ask(load(3, held.long(3)), run(LOOP, start, 0), save())[1:],
                             [[start], [576] + held.long(3)])

    def test_from_within_the_code(self):
        code = [[15, 0, 0, 0, 0, 1], [15, 0, 0, 3, 0, 1], [15, 0, 0, 4, 3, 1]]
        answered, held = run_on(3, loop_registers(0), run(code, 1))
        self.assertEqual(answered, [[3]])
        self.assertEqual(held.m[:5], [0, 10, 0, 10, 20])

    def test_most_is_used_up_within_a_loop(self):
        for most, index, total, left in ((1, 1, 10, 4), (2, 0, 10, 3), (3, 1, 20, 3), (4, 0, 20, 2),
                                         (7, 1, 40, 1), (8, 2, 40, 0), (9, 2, 40, 0)):
            answered, held = run_on(3, loop_registers(4), run(LOOP, 0, most))
            self.assertEqual((answered, held.m[0], held.m[2]), ([[index]], total, left), most)

    def test_going_back_over_several_positions(self):
        code = [[15, 0, 0, 0, 0, 1], [15, 0, 0, 3, 3, 1], [15, 0, 0, 4, 4, 1], [23, 0, 0, 2, 2, 0]]
        answered, held = run_on(3, loop_registers(3), run(code))
        self.assertEqual(answered, [[4]])
        self.assertEqual(held.m[:5], [10, 10, 0, 30, 30])

    def test_a_counter_of_0_goes_round(self):
        answered, held = run_on(3, loop_registers(0), run(LOOP, 0, 2))
        self.assertEqual((answered, held.m[2]), ([[0]], 2 ** 64 - 1))

    def test_a_loop_may_take_as_many_instructions_as_a_list_may(self):
        answered, held = run_on(3, loop_registers(100000), run(LOOP, 0, 200000))
        self.assertEqual((answered, held.m[0], held.m[2]), ([[2]], 1000000, 0))

    def test_the_largest_code(self):
        code = [[15, 0, 0, 0, 0, 1]] * 4096
        answered, held = run_on(3, loop_registers(0), run(code, 0, 4096), run(code[:1], 1, 0))
        self.assertEqual((answered, held.m[0]), ([[4096], [1]], 40960))


class Cut(unittest.TestCase):
    """A computation that is cut is the same as one that is not."""

    def program(self, components, seed):
        """A code with a loop in it, and registers that it works on."""
        code = any_code(number_source(seed), 12, components)
        counter = 7
        code = [six if six[0] != 23 and not (six[0] in (14, 15, 16, 21) and six[3] == counter) else
                [15, 0, 0, 6, 5, 4] for six in code]
        code.append([23, 0, 0, counter, 9, 0])
        held = any_registers(seed, components)
        held.m[counter] = 3
        return code, held

    def test_on_the_same_machine_after_any_number(self):
        for components in MACHINES:
            for seed in range(20, 26):
                code, held = self.program(components, seed)
                expected, index = expected_run(held, code, 0, 200)
                self.assertEqual(index, 13)
                whole = expected.long(components)
                for first in range(36):
                    stop = expected_run(held, code, 0, first)[1]
                    answered = ask(load(components, held.long(components)), run(code, 0, first),
                                   run(code, stop, 200), save())
                    self.assertEqual(answered, [[0], [stop], [13], [len(whole)] + whole])

    def test_each_instruction_by_itself(self):
        code, held = self.program(231, 30)
        calls, index, now = [], 0, held
        while index < len(code):
            calls.append(run(code, index, 1))
            now, index = expected_run(now, code, index, 1)
        answered = ask(load(231, held.long(231)), *calls, save())
        self.assertEqual(answered[-1][1:], expected_run(held, code, 0, 200)[0].long(231))

    def test_over_a_checkpoint_on_another_machine(self):
        for made_for in MACHINES:
            code, held = self.program(made_for, 31)
            fitting = [components for components in MACHINES if components >= made_for]
            expected = expected_run(held, code, 0, 200)[0]
            for here in fitting:
                for there in fitting:
                    for form in (0, 1):
                        for first in (0, 1, 5, 14, 20, 36):
                            stop = expected_run(held, code, 0, first)[1]
                            saved = ask(load(here, held.long(here)), run(code, 0, first), save(form=form))
                            self.assertEqual(saved[:2], [[0], [stop]])
                            answered = ask(load(there, saved[2][1:]), run(code, stop, 200), save())
                            content = expected.long(there)
                            self.assertEqual(answered, [[0], [13], [len(content)] + content])

    def test_any_programs_on_all_machines_that_can_execute_them(self):
        for seed in range(40, 100):
            source = number_source(seed)
            made_for = source.choice(MACHINES)
            code = any_code(source, 20, made_for)
            held = any_registers(seed, made_for)
            expected, index = expected_run(held, code, 0, 60)
            for components in MACHINES:
                if components >= made_for:
                    content = expected.long(components)
                    answered = ask(load(components, held.long(components)), run(code, 0, 60), save())
                    self.assertEqual(answered, [[0], [index], [len(content)] + content])

    def test_no_program_uses_a_component_that_the_machine_lacks(self):
        for components in MACHINES:
            for seed in range(100, 130):
                code = any_code(number_source(seed), 30, components)
                saved = ask(load(components, any_registers(seed, components).long(components)),
                            run(code, 0, 90), save(form=1))[2]
                used = int.from_bytes(bytes(saved[1:][512:520]), "little")
                self.assertEqual(used & ~components, 0)


if __name__ == "__main__":
    unittest.main()
