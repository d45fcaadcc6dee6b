"""Operation 1: what each kind of instruction does."""

import unittest

from support import (MACHINES, TOP, WIDTHS, Registers, any_registers, any_word, ask, bounds_of, expected_run, load,
                     machines_for, number_source, registers_of, run, save, vector_places)


def after(held, *code):
    """The registers behind a code on the machine 231."""
    loaded, index, saved = ask(load(231, held.long(231)), run(list(code)), save())
    assert loaded == [0] and index == [len(code)], (loaded, index)
    return registers_of(saved[1:])


class Literal(unittest.TestCase):
    """Outcomes that are written out."""

    def setUp(self):
        self.held = Registers()
        self.held.v[1] = [1, 2, 3, 4, 5, 6, 7, 8]
        self.held.v[2] = [10, 1, 30, 0, TOP, 2 ** 63, 2 ** 32, 8]
        self.held.v[3] = [90] * 8
        self.held.m[1] = TOP - 1
        self.held.m[2] = 5
        self.held.k[1] = 0b10110101
        self.held.k[2] = 0b01100110 + 2 ** 63

    def lanes(self, *six):
        return after(self.held, list(six)).v[3]

    def test_sums(self):
        self.assertEqual(self.lanes(0, 2, 0, 3, 1, 2), [11, 3, 33, 4, 4, 2 ** 63 + 6, 2 ** 32 + 7, 16])
        self.assertEqual(self.lanes(0, 1, 0, 3, 1, 2), [11, 3, 33, 4, 0, 0, 0, 0])
        self.assertEqual(self.lanes(0, 0, 0, 3, 1, 2), [11, 3, 0, 0, 0, 0, 0, 0])

    def test_differences(self):
        expected = [TOP - 8, 1, TOP - 26, 4, 6, 2 ** 63 + 6, 2 ** 64 - 2 ** 32 + 7, 0]
        self.assertEqual(self.lanes(1, 2, 0, 3, 1, 2), expected)

    def test_products_of_lower_halves(self):
        self.held.v[1] = [TOP, 2 ** 32, 2 ** 32 + 3, 7, 0, 1, 2, 2 ** 63]
        self.held.v[2] = [TOP, TOP, 2 ** 63 + 5, 6, TOP, TOP, TOP, 1]
        expected = [(2 ** 32 - 1) ** 2, 0, 15, 42, 0, 2 ** 32 - 1, 2 ** 33 - 2, 0]
        self.assertEqual(self.lanes(2, 2, 0, 3, 1, 2), expected)

    def test_bits(self):
        self.held.v[1] = [12, TOP] + [0] * 6
        self.held.v[2] = [10, 2 ** 63] + [0] * 6
        self.assertEqual(self.lanes(3, 0, 0, 3, 1, 2)[:2], [6, 2 ** 63 - 1])
        self.assertEqual(self.lanes(4, 0, 0, 3, 1, 2)[:2], [8, 2 ** 63])
        self.assertEqual(self.lanes(5, 0, 0, 3, 1, 2)[:2], [14, TOP])

    def test_minimum_and_maximum_are_unsigned(self):
        self.assertEqual(self.lanes(6, 2, 0, 3, 1, 2), [1, 1, 3, 0, 5, 6, 7, 8])
        self.assertEqual(self.lanes(7, 2, 0, 3, 1, 2), [10, 2, 30, 4, TOP, 2 ** 63, 2 ** 32, 8])

    def test_shifts(self):
        self.held.v[1] = [2 ** 63 + 1, 6] + [0] * 6
        self.assertEqual(self.lanes(8, 0, 0, 3, 1, 1)[:2], [2, 12])
        self.assertEqual(self.lanes(9, 0, 0, 3, 1, 1)[:2], [2 ** 62, 3])
        self.assertEqual(self.lanes(10, 0, 0, 3, 1, 1)[:2], [3, 12])
        self.assertEqual(self.lanes(8, 0, 0, 3, 1, 63)[:2], [2 ** 63, 0])
        self.assertEqual(self.lanes(9, 0, 0, 3, 1, 63)[:2], [1, 0])
        self.assertEqual(self.lanes(10, 0, 0, 3, 1, 63)[:2], [2 ** 63 + 2 ** 62, 3])
        for kind in (8, 9, 10):
            self.assertEqual(self.lanes(kind, 0, 0, 3, 1, 0)[:2], [2 ** 63 + 1, 6])

    def test_lanes_turned(self):
        self.assertEqual(self.lanes(11, 2, 0, 3, 1, 3), [4, 5, 6, 7, 8, 1, 2, 3])
        self.assertEqual(self.lanes(11, 1, 0, 3, 1, 3), [4, 1, 2, 3, 0, 0, 0, 0])
        self.assertEqual(self.lanes(11, 0, 0, 3, 1, 1), [2, 1, 0, 0, 0, 0, 0, 0])
        self.assertEqual(self.lanes(11, 2, 0, 3, 1, 0), [1, 2, 3, 4, 5, 6, 7, 8])

    def test_lanes_from_m(self):
        self.assertEqual(self.lanes(12, 1, 0, 3, 1, 0), [TOP - 1] * 4 + [0] * 4)
        self.assertEqual(self.lanes(13, 2, 0, 3, 1, 0), [TOP - 1, TOP, 0, 1, 2, 3, 4, 5])

    def test_sum_of_lanes(self):
        self.assertEqual(after(self.held, [14, 0, 0, 4, 1, 0]).m[4], 3)
        self.assertEqual(after(self.held, [14, 1, 0, 4, 1, 0]).m[4], 10)
        self.assertEqual(after(self.held, [14, 2, 0, 4, 1, 0]).m[4], 36)
        self.assertEqual(after(self.held, [14, 2, 0, 4, 2, 0]).m[4], 48 + 2 ** 63 + 2 ** 32)

    def test_m_from_m(self):
        self.assertEqual(after(self.held, [15, 0, 0, 4, 1, 2]).m[4], 3)
        self.assertEqual(after(self.held, [16, 0, 0, 4, 1, 2]).m[4], TOP - 4)

    def test_less(self):
        self.assertEqual(after(self.held, [17, 0, 0, 2, 1, 2]).k[2], 0b01)
        self.assertEqual(after(self.held, [17, 1, 0, 2, 1, 2]).k[2], 0b0101)
        self.assertEqual(after(self.held, [17, 2, 0, 2, 1, 2]).k[2], 0b01110101)

    def test_k_from_k(self):
        self.assertEqual(after(self.held, [18, 0, 0, 3, 1, 2]).k[3], 0b00100100)
        self.assertEqual(after(self.held, [19, 0, 0, 3, 1, 2]).k[3], 0b11010011 + 2 ** 63)

    def test_lowest_bits_inverted(self):
        self.assertEqual(after(self.held, [20, 0, 0, 3, 2, 0]).k[3], 0b01)
        self.assertEqual(after(self.held, [20, 1, 0, 3, 2, 0]).k[3], 0b1001)
        self.assertEqual(after(self.held, [20, 2, 0, 3, 2, 0]).k[3], 0b10011001)

    def test_between_m_and_k(self):
        self.assertEqual(after(self.held, [21, 0, 0, 4, 2, 0]).m[4], 0b01100110 + 2 ** 63)
        self.assertEqual(after(self.held, [22, 0, 0, 4, 1, 0]).k[4], TOP - 1)

    def test_a_mask_keeps_lanes_below_n_and_the_others_become_0(self):
        self.assertEqual(self.lanes(0, 2, 1, 3, 1, 1), [2, 90, 6, 90, 10, 12, 90, 16])
        self.assertEqual(self.lanes(0, 1, 1, 3, 1, 1), [2, 90, 6, 90, 0, 0, 0, 0])
        self.assertEqual(self.lanes(0, 0, 1, 3, 1, 1), [2, 90, 0, 0, 0, 0, 0, 0])
        self.assertEqual(self.lanes(0, 1, 3, 3, 1, 1), [90, 90, 90, 90, 0, 0, 0, 0])

    def test_k0_is_no_mask(self):
        self.held.k[0] = 0
        self.assertEqual(self.lanes(12, 2, 0, 3, 2, 0), [5] * 8)

    def test_going_back(self):
        self.held.m[3] = 3
        self.assertEqual(after(self.held, [15, 0, 0, 4, 4, 2], [23, 0, 0, 3, 1, 0]).m[3:5], [0, 15])


class EveryForm(unittest.TestCase):
    """Each kind with each width and mask, against the second machine of support."""

    def check(self, held, code, start=0, most=1, components=231):
        expected, index = expected_run(held, code, start, most)
        answered = ask(load(components, held.long(components)), run(code, start, most), save())
        content = expected.long(components)
        self.assertEqual(answered, [[0], [index], [len(content)] + content], (code, components))

    def forms(self):
        for kind in range(23):
            for width in WIDTHS[kind]:
                for mask in range(8 if kind <= 13 else 1):
                    yield kind, width, mask

    def operands(self, kind, width, source):
        """Some operands, those of one and the same register among them, and the highest."""
        tops = bounds_of(kind, width, 0)
        for _ in range(3):
            yield [source.randrange(top) for top in tops]
        yield [top - 1 for top in tops]
        for same in (0, 5):
            yield [same if same < top else 0 for top in tops]

    def test_each_kind_width_and_mask(self):
        source = number_source(3)
        held = any_registers(4)
        for kind, width, mask in self.forms():
            for operands in self.operands(kind, width, source):
                self.check(held, [[kind, width, mask] + operands])

    def test_each_distance(self):
        held = any_registers(5)
        for distance in range(64):
            for kind in (8, 9, 10):
                self.check(held, [[kind, 2, 0, 3, 14, distance]])
        for width in (0, 1, 2):
            for turn in range(2 << width):
                self.check(held, [[11, width, 0, 3, 14, turn]])
                self.check(held, [[11, width, 2, 3, 3, turn]])

    def test_each_register(self):
        held = any_registers(6)
        for number in range(32):
            for kind in (0, 1, 6, 8, 11):
                self.check(held, [[kind, 2, 0, number, 31 - number, 1]])
            self.check(held, [[12, 2, 3, number, number % 8, 0]])
            self.check(held, [[14, 2, 0, number % 8, number, 0]])
            self.check(held, [[17, 2, 0, number % 8, number, 31 - number]])

    def test_operands_are_read_before_anything_is_written(self):
        held = any_registers(7)
        for kind in range(8):
            for width in (0, 1, 2):
                for mask in (0, 1):
                    for d, a, b in ((4, 4, 5), (4, 5, 4), (4, 4, 4)):
                        self.check(held, [[kind, width, mask, d, a, b]])
        for kind in (15, 16, 18, 19):
            for d, a, b in ((4, 4, 5), (4, 5, 4), (4, 4, 4)):
                self.check(held, [[kind, 0, 0, d, a, b]])
        # With the mask itself being written afterwards, and the mask read as it stands.
        self.check(held, [[17, 2, 0, 1, 4, 5], [0, 2, 1, 4, 4, 5]], most=2)

    def test_counting_down(self):
        for value in (0, 1, 2, 3, 2 ** 63, TOP):
            held = any_registers(8)
            held.m[6] = value
            code = [[15, 0, 0, 0, 1, 2], [16, 0, 0, 3, 0, 4], [23, 0, 0, 6, 2, 0], [15, 0, 0, 5, 5, 5]]
            for most in range(9):
                self.check(held, code, most=most)
                self.check(held, code, start=2, most=most)

    def test_each_machine_gives_the_same(self):
        source = number_source(9)
        for kind, width, mask in self.forms():
            for _ in range(4):
                operands = [source.randrange(top) for top in bounds_of(kind, width, 0)]
                six = [kind, width, mask] + operands
                for place in vector_places(kind):
                    six[place] %= 16
                for components in MACHINES:
                    if components in machines_for(six):
                        self.check(any_registers(10, components), [six], components=components)
                        self.check(any_registers(11, 3), [six], components=components)

    def test_edge_numbers_in_each_lane(self):
        source = number_source(12)
        for kind in range(8):
            for _ in range(20):
                held = any_registers(13)
                held.v[1] = [any_word(source) for _ in range(8)]
                held.v[2] = [any_word(source) for _ in range(8)]
                held.v[2][3] = held.v[1][3]
                self.check(held, [[kind, 2, 0, 3, 1, 2], [17, 2, 0, 3, 1, 2]], most=2)


if __name__ == "__main__":
    unittest.main()
