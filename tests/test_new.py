"""Operation 0: new."""

import unittest

from support import MACHINES, Registers, any_registers, ask, load, new, save


class New(unittest.TestCase):

    def test_each_machine_begins_with_zeros(self):
        for components in MACHINES:
            first, saved = ask(new(components), save())
            self.assertEqual(first, [0])
            content = Registers().long(components)
            self.assertEqual(saved, [len(content)] + content)

    def test_lengths_of_the_three_machines(self):
        lengths = [ask(new(components), save())[1][0] for components in MACHINES]
        self.assertEqual(lengths, [576, 832, 2688])

    def test_every_other_number_is_refused(self):
        others = [n for n in range(1100) if n not in MACHINES]
        others += [65536 + 3, 2 ** 31 + 7, 2 ** 32 - 256 + 231, 2 ** 32 - 1]
        for components in others:
            self.assertEqual(ask(new(components)), [[-1]], components)

    def test_an_error_leaves_the_machine_that_was_there(self):
        for components in MACHINES:
            held = any_registers(1, components)
            loading = load(components, held.long(components))
            for other in (0, 1, 2, 4, 5, 6, 8, 230, 232, 255, 2 ** 32 - 1):
                answered = ask(loading, new(other), save())
                content = held.long(components)
                self.assertEqual(answered, [[0], [-1], [len(content)] + content])

    def test_it_replaces_the_machine_and_its_state(self):
        for before in MACHINES:
            for components in MACHINES:
                loading = load(before, any_registers(2, before).long(before))
                answered = ask(loading, new(components), save())
                content = Registers().long(components)
                self.assertEqual(answered, [[0], [0], [len(content)] + content])


if __name__ == "__main__":
    unittest.main()
