"""Checkpoints: a state written as bytes in the long or the short form, and read again."""

from vectorpoints.state import State, WORD_COUNTS, component_words, put_component, weights_in_use
from vectorpoints.words import word_bytes, words_at

HEAD_LENGTH = 576
SCALARS_AT = 32
PAIRS_AT = 160
WEIGHTS_AT = 512
FORM_AT = 520

SHORT_MARK = 0x8000000000000000

# What may stand behind the head in the short form, in order.
TAIL_WEIGHTS = (4, 32, 64, 128)

# The machine whose long form has this length.
LONG_LENGTHS = {576: 3, 832: 7, 2688: 231}


def component_bytes(state, weight):
    """A component as a checkpoint has it behind its head."""
    return word_bytes(component_words(state, weight))


def scalar_bytes(state, mark):
    """The M registers, each with its two marks behind it."""
    content = []
    for word in state.scalars:
        content.extend(word_bytes([word]))
        content.extend([mark, mark, 0, 0, 0, 0, 0, 0])
    return content


def head_bytes(state, weights, form_word):
    """What both forms begin with."""
    mark = 255 if weights & 1 == 1 else 0
    content = [127, 3, 0, 0, mark] + [0] * 19
    content.extend([128, 31, 0, 0, 255, 255, 0, 0])
    content.extend(scalar_bytes(state, mark))
    content.extend(component_bytes(state, 2))
    content.extend([0] * 96)
    content.extend(word_bytes([weights, form_word]))
    content.extend([0] * 48)
    return content


def long_form(state, components):
    """The long form for a machine, which must have all components in use."""
    content = head_bytes(state, weights_in_use(state), 0)
    if components != 3:
        content.extend(component_bytes(state, 4))
    if components == 231:
        content.extend([0] * 256)
        for weight in (32, 64, 128):
            content.extend(component_bytes(state, weight))
    return content


def short_form(state):
    """The short form: only the components in use stand behind the head."""
    weights = weights_in_use(state)
    content = head_bytes(state, weights, SHORT_MARK + weights)
    for weight in TAIL_WEIGHTS:
        if weights & weight != 0:
            content.extend(component_bytes(state, weight))
    return content


def read_checkpoint(content):
    """The state of a checkpoint, or None if the bytes are not one."""
    if len(content) < HEAD_LENGTH:
        return None
    if words_at(content, FORM_AT, 1) == [0]:
        return read_long(content)
    return read_short(content)


def read_head(content):
    """A state with the components 0 and 1 of the head, the others 0."""
    state = State()
    scalars = [words_at(content, SCALARS_AT + 16 * number, 1)[0] for number in range(8)]
    put_component(state, 1, scalars)
    put_component(state, 2, words_at(content, PAIRS_AT, WORD_COUNTS[2]))
    return state


def read_part(state, weight, content, at):
    """Takes a component from the bytes at an offset."""
    put_component(state, weight, words_at(content, at, WORD_COUNTS[weight]))


# Reading takes the registers alone. Writing them again and comparing asks for
# every other byte, so that the form is told in one place.

def read_long(content):
    """The state whose long form the bytes are, or None."""
    components = LONG_LENGTHS.get(len(content), 0)
    if components == 0:
        return None
    state = read_head(content)
    if components != 3:
        read_part(state, 4, content, HEAD_LENGTH)
    if components == 231:
        read_part(state, 32, content, 1088)
        read_part(state, 64, content, 1152)
        read_part(state, 128, content, 1664)
    return state if long_form(state, components) == content else None


def read_short(content):
    """The state whose short form the bytes are, or None."""
    state = read_head(content)
    weights = words_at(content, WEIGHTS_AT, 1)[0]
    at = HEAD_LENGTH
    for weight in TAIL_WEIGHTS:
        if weights & weight != 0:
            behind = at + 8 * WORD_COUNTS[weight]
            if behind > len(content):
                return None
            read_part(state, weight, content, at)
            at = behind
    return state if short_form(state) == content else None
