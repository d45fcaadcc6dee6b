"""Instructions: which six bytes are one, and which machine one needs.

An instruction is a list of six numbers: kind, width, mask, d, a, b.
"""

LANE_COUNTS = (2, 4, 8)

# For each kind, what the width, the mask, d, a and b must be below.
# What depends on the width (kind 11) or the index (kind 23) is asked besides.
BOUNDS = (
    (3, 8, 32, 32, 32),
    (3, 8, 32, 32, 32),
    (3, 8, 32, 32, 32),
    (3, 8, 32, 32, 32),
    (3, 8, 32, 32, 32),
    (3, 8, 32, 32, 32),
    (3, 8, 32, 32, 32),
    (3, 8, 32, 32, 32),
    (3, 8, 32, 32, 64),
    (3, 8, 32, 32, 64),
    (3, 8, 32, 32, 64),
    (3, 8, 32, 32, 8),
    (3, 8, 32, 8, 1),
    (3, 8, 32, 8, 1),
    (3, 1, 8, 32, 1),
    (1, 1, 8, 8, 8),
    (1, 1, 8, 8, 8),
    (3, 1, 8, 32, 32),
    (1, 1, 8, 8, 8),
    (1, 1, 8, 8, 8),
    (3, 1, 8, 8, 1),
    (1, 1, 8, 8, 1),
    (1, 1, 8, 8, 1),
    (1, 1, 8, 256, 1),
)


def split_code(code):
    """The instructions of a code, six bytes each."""
    return [code[at:at + 6] for at in range(0, len(code), 6)]


def is_instruction(six, index):
    """Whether six bytes are an instruction at this index."""
    kind = six[0]
    if kind >= len(BOUNDS):
        return False
    for value, bound in zip(six[1:], BOUNDS[kind]):
        if value >= bound:
            return False
    if kind == 11:
        return six[5] < LANE_COUNTS[six[1]]
    if kind == 23:
        return six[4] >= 1 and six[4] <= index
    return True


def vector_operands(instruction):
    """The numbers of the V registers that an instruction names."""
    kind = instruction[0]
    if kind <= 7:
        return instruction[3:6]
    if kind <= 11:
        return instruction[3:5]
    if kind <= 13:
        return instruction[3:4]
    if kind == 14:
        return instruction[4:5]
    if kind == 17:
        return instruction[4:6]
    return []


def needed_components(instruction):
    """The components of the smallest machine that can execute an instruction."""
    kind = instruction[0]
    width = instruction[1]
    if width == 2 or instruction[2] != 0 or (kind >= 17 and kind <= 22):
        return 231
    if any([number >= 16 for number in vector_operands(instruction)]):
        return 231
    if width == 1:
        return 7
    return 3
