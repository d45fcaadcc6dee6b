"""What the tests share: calls put together, answers taken apart, checkpoints built on their own."""

import random
import struct

from vectorpoints.machine import answers

TOP = 2 ** 64 - 1
MACHINES = (3, 7, 231)

# Each sum of weights that a state may have in use.
USED = [bits % 8 + 32 * (bits // 8) for bits in range(64)]


# Calls.

def new(components):
    return [0, 1, components, 0]


def run(code, start=0, most=None, n=None):
    """code: a list of instructions, six numbers each."""
    numbers = [byte for six in code for byte in six]
    n = len(code) if n is None else n
    most = 1000 if most is None else most
    return [1, 3 + len(numbers), n, start, most] + numbers + [0]


def save(room=4096, form=0):
    return [2, 2, room, form, 0]


def load(components, content, n=None):
    content = list(content)
    n = len(content) if n is None else n
    return [3, 2 + len(content), n, components] + content + [0]


def turn(content, components, form=0, room=4096, n=None):
    content = list(content)
    n = len(content) if n is None else n
    return [4, 4 + len(content), n, room, form, components] + content + [0]


def peek(number):
    return [5, 1, number, 0]


def poke(number, content):
    return [6, 1 + len(content), number] + list(content) + [0]


def differ(first, second, n1=None, n2=None):
    both = list(first) + list(second)
    n1 = len(first) if n1 is None else n1
    n2 = len(second) if n2 is None else n2
    return [7, 2 + len(both), n1, n2] + both + [0]


def ask(*calls):
    """The answers, one list each; checks that every number belongs to one of them."""
    given = [number for call in calls for number in call]
    assert len(calls) <= 60 and len(given) <= 30000, "more than one list may have"
    result = answers(given)
    found = []
    at = 0
    while at < len(result):
        size = result[at]
        assert size >= 1 and at + 1 + size <= len(result), "an answer is cut off"
        found.append(result[at + 1:at + 1 + size])
        at += 1 + size
    assert len(found) == len(calls), "%d answers to %d calls" % (len(found), len(calls))
    return found


# States.

def fits(used, components):
    """Whether a machine has all the components in use."""
    return used & ~components == 0


class Registers:
    """The registers of a state, for what the tests expect."""

    def __init__(self):
        self.m = [0] * 8
        self.v = [[0] * 8 for _ in range(32)]
        self.k = [0] * 8

    def copy(self):
        other = Registers()
        other.m = self.m[:]
        other.v = [lanes[:] for lanes in self.v]
        other.k = self.k[:]
        return other

    def parts(self):
        """The words of each component, by weight."""
        low = self.v[:16]
        return {
            1: self.m,
            2: [x for lanes in low for x in lanes[0:2]],
            4: [x for lanes in low for x in lanes[2:4]],
            32: self.k,
            64: [x for lanes in low for x in lanes[4:8]],
            128: [x for lanes in self.v[16:] for x in lanes],
        }

    def used(self):
        return sum(weight for weight, words in self.parts().items() if any(words))

    def head(self, form_word):
        mark = b"\xff" if any(self.m) else b"\0"
        rows = b"".join(struct.pack("<Q", x) + mark * 2 + bytes(6) for x in self.m)
        pairs = b"".join(struct.pack("<2Q", *lanes[:2]) for lanes in self.v[:16])
        return (b"\x7f\x03\0\0" + mark + bytes(19) + b"\x80\x1f\0\0\xff\xff\0\0" + rows + pairs
                + bytes(96) + struct.pack("<2Q", self.used(), form_word) + bytes(48))

    def part_bytes(self, weight):
        words = self.parts()[weight]
        return struct.pack("<%dQ" % len(words), *words)

    def long(self, components):
        content = self.head(0)
        if components >= 7:
            content += self.part_bytes(4)
        if components == 231:
            content += bytes(256) + self.part_bytes(32) + self.part_bytes(64) + self.part_bytes(128)
        return list(content)

    def short(self):
        used = self.used()
        content = self.head(2 ** 63 + used)
        for weight in (4, 32, 64, 128):
            if used & weight:
                content += self.part_bytes(weight)
        return list(content)


def bytes_of(*words):
    """Sixty-four bytes: the words, then zeros."""
    content = struct.pack("<%dQ" % len(words), *words)
    return list(content + bytes(64 - len(content)))


def weight_of(number, lane):
    """The weight of the component that a word of a register belongs to, by the numbers of peek and poke."""
    if number >= 40:
        return 32
    if number >= 32:
        return 1
    return 128 if number >= 16 else (2, 4, 64, 64)[lane // 2]


def held_words(held, number):
    """The words of a register by the number that peek and poke use."""
    if number < 32:
        return held.v[number]
    return [held.m[number - 32]] if number < 40 else [held.k[number - 40]]


def hold_words(held, number, words):
    """The registers with one of them changed; an M or K register takes one word."""
    other = held.copy()
    if number < 32:
        other.v[number] = list(words)
    elif number < 40:
        other.m[number - 32], = words
    else:
        other.k[number - 40], = words
    return other


def all_forms(held):
    """The short form and every long form of a state."""
    return [held.short()] + [held.long(components) for components in MACHINES if fits(held.used(), components)]


def changed(content, at, byte):
    """The bytes with one of them replaced."""
    other = list(content)
    other[at] = byte
    return other


def registers_of(content):
    """The registers of a long form for the machine 231."""
    content = bytes(content)
    assert len(content) == 2688
    found = Registers()
    for i in range(8):
        found.m[i], = struct.unpack_from("<Q", content, 32 + 16 * i)
        found.k[i], = struct.unpack_from("<Q", content, 1088 + 8 * i)
    for i in range(16):
        found.v[i] = list(struct.unpack_from("<2Q", content, 160 + 16 * i)
                          + struct.unpack_from("<2Q", content, 576 + 16 * i)
                          + struct.unpack_from("<4Q", content, 1152 + 32 * i))
        found.v[16 + i] = list(struct.unpack_from("<8Q", content, 1664 + 64 * i))
    return found


def number_source(seed):
    return random.Random(seed)


def any_word(source):
    """A 64-bit number; often one at an edge, or a small one."""
    return source.choice([source.getrandbits(64), source.getrandbits(64), source.getrandbits(32),
                          source.getrandbits(3), 0, 1, TOP, 2 ** 63, 2 ** 32])


def any_registers(seed, weights=231):
    """Registers with numbers in just these components."""
    source = number_source(seed)
    found = Registers()
    if weights & 1:
        found.m = [any_word(source) for _ in range(7)] + [source.getrandbits(64) | 1]
    if weights & 32:
        found.k = [any_word(source) for _ in range(7)] + [source.getrandbits(64) | 1]
    for number in range(32):
        for lane in range(8):
            if weights & weight_of(number, lane):
                last = number in (15, 31) and lane in (1, 3, 7)
                found.v[number][lane] = source.getrandbits(64) | 1 if last else any_word(source)
    assert found.used() == weights
    return found


# A second machine, written apart from the package.

LANE_RULES = {
    0: lambda x, y: (x + y) % 2 ** 64,
    1: lambda x, y: (x - y) % 2 ** 64,
    2: lambda x, y: (x % 2 ** 32) * (y % 2 ** 32),
    3: lambda x, y: x ^ y,
    4: lambda x, y: x & y,
    5: lambda x, y: x | y,
    6: lambda x, y: x if x < y else y,
    7: lambda x, y: y if x < y else x,
}

ONE_RULES = {
    8: lambda x, b: x * 2 ** b % 2 ** 64,
    9: lambda x, b: x // 2 ** b,
    10: lambda x, b: x * 2 ** b % 2 ** 64 + x // 2 ** (64 - b),
}


def expected_lanes(held, six):
    kind, w, _, _, a, b = six
    lanes = range(2 << w)
    if kind in LANE_RULES:
        return [LANE_RULES[kind](held.v[a][i], held.v[b][i]) for i in lanes]
    if kind in ONE_RULES:
        return [ONE_RULES[kind](held.v[a][i], b) for i in lanes]
    if kind == 11:
        return [held.v[a][(i + b) % len(lanes)] for i in lanes]
    return [(held.m[a] + (i if kind == 13 else 0)) % 2 ** 64 for i in lanes]


def expected_step(held, six, index):
    """Executes one instruction on the registers; gives back the next index."""
    kind, w, k, d, a, b = six
    n = 2 << w
    if kind <= 13:
        fresh = expected_lanes(held, six)
        for i in range(8):
            if i >= n:
                held.v[d][i] = 0
            elif k == 0 or held.k[k] >> i & 1:
                held.v[d][i] = fresh[i]
    elif kind == 14:
        held.m[d] = sum(held.v[a][:n]) % 2 ** 64
    elif kind == 15:
        held.m[d] = (held.m[a] + held.m[b]) % 2 ** 64
    elif kind == 16:
        held.m[d] = held.m[a] ^ held.m[b]
    elif kind == 17:
        held.k[d] = sum(2 ** i for i in range(n) if held.v[a][i] < held.v[b][i])
    elif kind == 18:
        held.k[d] = held.k[a] & held.k[b]
    elif kind == 19:
        held.k[d] = held.k[a] ^ held.k[b]
    elif kind == 20:
        held.k[d] = 2 ** n - 1 - held.k[a] % 2 ** n
    elif kind == 21:
        held.m[d] = held.k[a]
    elif kind == 22:
        held.k[d] = held.m[a]
    else:
        held.m[d] = (held.m[d] - 1) % 2 ** 64
        if held.m[d]:
            return index - a
    return index + 1


def expected_run(held, code, start, most):
    """The registers and the index behind a run."""
    held = held.copy()
    index = start
    for _ in range(most):
        if index == len(code):
            break
        index = expected_step(held, code[index], index)
    return held, index


# Instructions.

WIDTHS = {kind: (0, 1, 2) for kind in range(24)}
WIDTHS.update({kind: (0,) for kind in (15, 16, 18, 19, 21, 22, 23)})


def bounds_of(kind, width, index):
    """What d, a and b must be below."""
    if kind <= 7:
        return 32, 32, 32
    if kind <= 10:
        return 32, 32, 64
    if kind == 11:
        return 32, 32, 2 << width
    if kind <= 13:
        return 32, 8, 1
    if kind == 14:
        return 8, 32, 1
    if kind == 17:
        return 8, 32, 32
    if kind in (15, 16, 18, 19):
        return 8, 8, 8
    if kind == 23:
        return 8, index + 1, 1
    return 8, 8, 1


def is_valid(six, index):
    kind, width, mask, d, a, b = six
    if kind > 23 or width not in WIDTHS[kind] or mask > (7 if kind <= 13 else 0):
        return False
    if kind == 23 and a == 0:
        return False
    return all(x < bound for x, bound in zip((d, a, b), bounds_of(kind, width, index)))


def vector_places(kind):
    """Which of the six bytes are numbers of V registers."""
    if kind <= 7:
        return 3, 4, 5
    if kind <= 11:
        return 3, 4
    if kind <= 13:
        return 3,
    return {14: (4,), 17: (4, 5)}.get(kind, ())


def machines_for(six):
    """The machines that can execute an instruction."""
    kind, width, mask = six[:3]
    if width == 2 or mask or 17 <= kind <= 22 or any(six[i] > 15 for i in vector_places(kind)):
        return 231,
    return (7, 231) if width == 1 else MACHINES


def any_instruction(source, index, components=231):
    """An instruction that this machine can execute at this index."""
    while True:
        kind = source.randrange(24 if index else 23)
        width = source.choice(WIDTHS[kind])
        mask = source.randrange(8) if kind <= 13 and components == 231 else 0
        tops = bounds_of(kind, width, index)
        d, a, b = (source.randrange(top) for top in tops)
        if kind == 23:
            a = source.randint(1, index)
        six = [kind, width, mask, d, a, b]
        if components in machines_for(six):
            return six


def any_code(source, length, components=231):
    return [any_instruction(source, index, components) for index in range(length)]
