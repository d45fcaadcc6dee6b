"""The state of a machine: its registers, and the components that they make up.

A component is named by its weight.
"""

MODULUS = 0x10000000000000000

MACHINES = (3, 7, 231)

SCALAR_WEIGHT = 1
MASK_WEIGHT = 32
WEIGHTS = (1, 2, 4, 32, 64, 128)

# Of each component of V registers: the first register, the one behind the last,
# the first lane, the one behind the last.
LANES = {2: (0, 16, 0, 2), 4: (0, 16, 2, 4), 64: (0, 16, 4, 8), 128: (16, 32, 0, 8)}

# How many words stand together in a checkpoint. Component 0 has other bytes between its words.
WORD_COUNTS = {2: 32, 4: 32, 32: 8, 64: 64, 128: 128}


class State:
    """The M registers (scalars), the V registers (vectors) and the K registers (masks), all 0 at first."""

    def __init__(self):
        self.scalars = [0] * 8
        self.vectors = [[0] * 8 for number in range(32)]
        self.masks = [0] * 8


def lane_places(weight):
    """Where the words of a component of V registers are: pairs of register and lane, in order."""
    region = LANES[weight]
    places = []
    for number in range(region[0], region[1]):
        for lane in range(region[2], region[3]):
            places.append((number, lane))
    return places


def component_words(state, weight):
    """The words of a component, in the order in which a checkpoint has them."""
    if weight == SCALAR_WEIGHT:
        return list(state.scalars)
    if weight == MASK_WEIGHT:
        return list(state.masks)
    return [state.vectors[number][lane] for number, lane in lane_places(weight)]


def put_component(state, weight, words):
    """Gives a component these words, in the order of component_words."""
    if weight == SCALAR_WEIGHT:
        state.scalars = list(words)
    elif weight == MASK_WEIGHT:
        state.masks = list(words)
    else:
        for place, word in zip(lane_places(weight), words):
            state.vectors[place[0]][place[1]] = word


def weights_in_use(state):
    """The sum of the weights of the components that are not all 0."""
    total = 0
    for weight in WEIGHTS:
        if any([word != 0 for word in component_words(state, weight)]):
            total = total + weight
    return total


def different_weights(left, right):
    """The sum of the weights of the components in which two states differ."""
    total = 0
    for weight in WEIGHTS:
        if component_words(left, weight) != component_words(right, weight):
            total = total + weight
    return total


def copy_state(state):
    """A state of its own with the same registers."""
    fresh = State()
    for weight in WEIGHTS:
        put_component(fresh, weight, component_words(state, weight))
    return fresh


def has_components(components, needed):
    """Whether the components of a machine hold all the needed ones; both are sums of weights."""
    return (components & needed) == needed
