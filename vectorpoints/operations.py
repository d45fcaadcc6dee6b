"""The operations. Each takes the machine and the call's numbers, and gives back its answer.

An error is answered by its code alone, before anything is changed.
"""

from vectorpoints.checkpoints import long_form, read_checkpoint, short_form
from vectorpoints.execution import execute
from vectorpoints.instructions import is_instruction, needed_components, split_code
from vectorpoints.state import MACHINES, State, has_components, weights_in_use

OUT_OF_RANGE = -1
BAD_BYTES = -2
NO_COMPONENT = -3
NO_ROOM = -4

MOST_CODE = 4096
MOST_EXECUTED = 1000000
MOST_BYTES = 2688


class Machine:
    """The components of the machine and its state. Without components there is no machine yet."""

    def __init__(self):
        self.components = 0
        self.state = State()


def new(machine, numbers):
    """Operation 0. Numbers: components."""
    components = numbers[0]
    if components not in MACHINES:
        return [OUT_OF_RANGE]
    machine.components = components
    machine.state = State()
    return [0]


def run(machine, numbers):
    """Operation 1. Numbers: n, from, most, code."""
    count = numbers[0]
    start = numbers[1]
    most = numbers[2]
    if count > MOST_CODE or start > count or most > MOST_EXECUTED:
        return [OUT_OF_RANGE]
    instructions = split_code(numbers[3:])
    for index, six in enumerate(instructions):
        if not is_instruction(six, index):
            return [BAD_BYTES]
    for instruction in instructions:
        if not has_components(machine.components, needed_components(instruction)):
            return [NO_COMPONENT]
    return [execute(machine.state, instructions, start, most)]


def save(machine, numbers):
    """Operation 2. Numbers: room, form."""
    room = numbers[0]
    form = numbers[1]
    if form > 1:
        return [OUT_OF_RANGE]
    if form == 0:
        content = long_form(machine.state, machine.components)
    else:
        content = short_form(machine.state)
    if len(content) > room:
        return [NO_ROOM]
    return [len(content)] + content


def load(machine, numbers):
    """Operation 3. Numbers: n, components, bytes."""
    components = numbers[1]
    if components not in MACHINES:
        return [OUT_OF_RANGE]
    if numbers[0] > MOST_BYTES:
        return [BAD_BYTES]
    state = read_checkpoint(numbers[2:])
    if state is None:
        return [BAD_BYTES]
    if not has_components(components, weights_in_use(state)):
        return [NO_COMPONENT]
    machine.components = components
    machine.state = state
    return [0]
