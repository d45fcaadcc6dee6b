"""The operations. Each takes the call's numbers, and the machine if it uses it, and gives back its answer.

An error is answered by its code alone, before anything is changed.
"""

from vectorpoints.checkpoints import long_form, read_checkpoint, short_form
from vectorpoints.execution import execute
from vectorpoints.instructions import is_instruction, needed_components, split_code
from vectorpoints.registers import REGISTER_COUNT, can_hold, put_register, register_words
from vectorpoints.state import MACHINES, State, copy_state, different_weights, has_components, weights_in_use
from vectorpoints.words import word_bytes, words_at

OUT_OF_RANGE = -1
BAD_BYTES = -2
NO_COMPONENT = -3
NO_ROOM = -4

MOST_CODE = 4096
MOST_EXECUTED = 1000000
MOST_BYTES = 2688


class Machine:
    """The components of the machine and its state. Without components there is no machine yet."""

    def __init__(self):
        self.components = 0
        self.state = State()


def new(machine, numbers):
    """Operation 0. Numbers: components."""
    components = numbers[0]
    if components not in MACHINES:
        return [OUT_OF_RANGE]
    machine.components = components
    machine.state = State()
    return [0]


def run(machine, numbers):
    """Operation 1. Numbers: n, from, most, code."""
    count = numbers[0]
    start = numbers[1]
    most = numbers[2]
    if count > MOST_CODE or start > count or most > MOST_EXECUTED:
        return [OUT_OF_RANGE]
    instructions = split_code(numbers[3:])
    for index, six in enumerate(instructions):
        if not is_instruction(six, index):
            return [BAD_BYTES]
    for instruction in instructions:
        if not has_components(machine.components, needed_components(instruction)):
            return [NO_COMPONENT]
    return [execute(machine.state, instructions, start, most)]


def save(machine, numbers):
    """Operation 2. Numbers: room, form."""
    form = numbers[1]
    if form > 1:
        return [OUT_OF_RANGE]
    return written_state(machine.state, machine.components, numbers[0], form)


def load(machine, numbers):
    """Operation 3. Numbers: n, components, bytes."""
    components = numbers[1]
    if components not in MACHINES:
        return [OUT_OF_RANGE]
    state = read_state(numbers[0], numbers[2:])
    if state is None:
        return [BAD_BYTES]
    if not has_components(components, weights_in_use(state)):
        return [NO_COMPONENT]
    machine.components = components
    machine.state = state
    return [0]


def turn(numbers):
    """Operation 4, which needs no machine. Numbers: n, room, form, components, bytes."""
    form = numbers[2]
    components = numbers[3]
    if form > 1 or components not in MACHINES:
        return [OUT_OF_RANGE]
    state = read_state(numbers[0], numbers[4:])
    if state is None:
        return [BAD_BYTES]
    if not has_components(components, weights_in_use(state)):
        return [NO_COMPONENT]
    return written_state(state, components, numbers[1], form)


def peek(machine, numbers):
    """Operation 5. Numbers: the number of a register, or the one behind them for what is in use."""
    number = numbers[0]
    if number > REGISTER_COUNT:
        return [OUT_OF_RANGE]
    if number == REGISTER_COUNT:
        words = [weights_in_use(machine.state), machine.components, 0, 0, 0, 0, 0, 0]
    else:
        words = register_words(machine.state, number)
    return [0] + word_bytes(words)


def poke(machine, numbers):
    """Operation 6. Numbers: the number of a register, its 64 bytes."""
    number = numbers[0]
    if number >= REGISTER_COUNT:
        return [OUT_OF_RANGE]
    words = words_at(numbers, 1, 8)
    if not can_hold(number, words):
        return [BAD_BYTES]
    # Which components would be in use is only seen in a state that has the words.
    state = copy_state(machine.state)
    put_register(state, number, words)
    if not has_components(machine.components, weights_in_use(state)):
        return [NO_COMPONENT]
    machine.state = state
    return [0]


def differ(numbers):
    """Operation 7, which needs no machine. Numbers: n1, n2, bytes1, bytes2."""
    first = numbers[0]
    second = numbers[1]
    # A count that is too high has no bytes, and then does not tell where the second ones begin.
    if first > MOST_BYTES or second > MOST_BYTES:
        return [BAD_BYTES]
    left = read_checkpoint(numbers[2:2 + first])
    right = read_checkpoint(numbers[2 + first:])
    if left is None or right is None:
        return [BAD_BYTES]
    return [different_weights(left, right)]


def read_state(count, content):
    """The state of a checkpoint of so many bytes, or None if it is not one."""
    if count > MOST_BYTES:
        return None
    return read_checkpoint(content)


def written_state(state, components, room, form):
    """The answer that tells a checkpoint of the state, if there is room for it."""
    if form == 0:
        content = long_form(state, components)
    else:
        content = short_form(state)
    if len(content) > room:
        return [NO_ROOM]
    return [len(content)] + content
