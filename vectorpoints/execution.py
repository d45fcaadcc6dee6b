"""What instructions do to a state."""

from vectorpoints.instructions import LANE_COUNTS
from vectorpoints.state import MODULUS

LOWER_HALF = 0xFFFFFFFF


def execute(state, instructions, start, most):
    """Executes at most so many instructions from the index start on; gives back the index then."""
    index = start
    executed = 0
    while executed < most and index < len(instructions):
        index = step(state, instructions[index], index)
        executed = executed + 1
    return index


def step(state, instruction, index):
    """Executes one instruction; gives back the index of the next one."""
    kind = instruction[0]
    if kind <= 13:
        write_vector(state, instruction, vector_result(state, instruction))
    elif kind in (14, 15, 16, 21):
        state.scalars[instruction[3]] = scalar_result(state, instruction)
    elif kind <= 22:
        state.masks[instruction[3]] = mask_result(state, instruction)
    else:
        return count_down(state, instruction, index)
    return index + 1


def write_vector(state, instruction, lanes):
    """Writes lanes to the register d under the mask; the lanes behind them become 0."""
    mask = instruction[2]
    number = instruction[3]
    if mask != 0:
        lanes = chosen_lanes(state.masks[mask], lanes, state.vectors[number])
    state.vectors[number] = lanes + [0] * (8 - len(lanes))


def chosen_lanes(bits, fresh, kept):
    """The fresh lanes where the mask has a 1, the kept ones where it has a 0."""
    return [fresh[lane] if (bits >> lane) & 1 == 1 else kept[lane] for lane in range(len(fresh))]


def vector_result(state, instruction):
    """The lanes that an instruction of the kinds 0 to 13 makes, without its mask."""
    kind = instruction[0]
    count = LANE_COUNTS[instruction[1]]
    a = instruction[4]
    b = instruction[5]
    if kind <= 7:
        return combined_lanes(kind, state.vectors[a][:count], state.vectors[b][:count])
    if kind <= 10:
        return shifted_lanes(kind, state.vectors[a][:count], b)
    if kind == 11:
        source = state.vectors[a]
        return [source[(lane + b) % count] for lane in range(count)]
    if kind == 12:
        return [state.scalars[a]] * count
    return [(state.scalars[a] + lane) % MODULUS for lane in range(count)]


def combined_lanes(kind, left, right):
    """Each lane of the one with the same lane of the other: the kinds 0 to 7."""
    if kind == 0:
        return [(x + y) % MODULUS for x, y in zip(left, right)]
    if kind == 1:
        return [(x - y) % MODULUS for x, y in zip(left, right)]
    if kind == 2:
        return [(x & LOWER_HALF) * (y & LOWER_HALF) for x, y in zip(left, right)]
    if kind == 3:
        return [x ^ y for x, y in zip(left, right)]
    if kind == 4:
        return [x & y for x, y in zip(left, right)]
    if kind == 5:
        return [x | y for x, y in zip(left, right)]
    if kind == 6:
        return [min(x, y) for x, y in zip(left, right)]
    return [max(x, y) for x, y in zip(left, right)]


def shifted_lanes(kind, lanes, distance):
    """The lanes shifted left (8), shifted right (9) or rotated left (10)."""
    if kind == 8:
        return [(x << distance) % MODULUS for x in lanes]
    if kind == 9:
        return [x >> distance for x in lanes]
    return [((x << distance) | (x >> (64 - distance))) % MODULUS for x in lanes]


def scalar_result(state, instruction):
    """What an instruction of the kinds 14, 15, 16 and 21 writes to Md."""
    kind = instruction[0]
    a = instruction[4]
    b = instruction[5]
    if kind == 14:
        return sum(state.vectors[a][:LANE_COUNTS[instruction[1]]]) % MODULUS
    if kind == 15:
        return (state.scalars[a] + state.scalars[b]) % MODULUS
    if kind == 16:
        return state.scalars[a] ^ state.scalars[b]
    return state.masks[a]


def mask_result(state, instruction):
    """What an instruction of the kinds 17 to 20 and 22 writes to Kd."""
    kind = instruction[0]
    count = LANE_COUNTS[instruction[1]]
    a = instruction[4]
    b = instruction[5]
    if kind == 17:
        return less_bits(state.vectors[a][:count], state.vectors[b][:count])
    if kind == 18:
        return state.masks[a] & state.masks[b]
    if kind == 19:
        return state.masks[a] ^ state.masks[b]
    if kind == 20:
        lowest = (1 << count) - 1
        return (state.masks[a] & lowest) ^ lowest
    return state.scalars[a]


def less_bits(left, right):
    """A number whose bit i is 1 where lane i of the one is less than that of the other."""
    bits = 0
    for lane in range(len(left)):
        if left[lane] < right[lane]:
            bits = bits | (1 << lane)
    return bits


def count_down(state, instruction, index):
    """Kind 23: decreases Md; goes back if it is not 0 then."""
    number = instruction[3]
    value = (state.scalars[number] - 1) % MODULUS
    state.scalars[number] = value
    if value != 0:
        return index - instruction[4]
    return index + 1
