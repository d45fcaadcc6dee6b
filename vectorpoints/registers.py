"""The registers by number, each as eight words: 0 to 31 the V registers, 32 to 39 M0 to M7, 40 to 47 K0 to K7.

An M or K register is the first of its words; the others are 0.
"""

FIRST_SCALAR = 32
FIRST_MASK = 40
REGISTER_COUNT = 48


def register_words(state, number):
    """What a register holds."""
    if number < FIRST_SCALAR:
        return list(state.vectors[number])
    if number < FIRST_MASK:
        word = state.scalars[number - FIRST_SCALAR]
    else:
        word = state.masks[number - FIRST_MASK]
    return [word, 0, 0, 0, 0, 0, 0, 0]


def can_hold(number, words):
    """Whether a register has room for the words that are not 0."""
    return number < FIRST_SCALAR or not any([word != 0 for word in words[1:]])


def put_register(state, number, words):
    """Gives a register these words, which it can hold."""
    if number < FIRST_SCALAR:
        state.vectors[number] = list(words)
    elif number < FIRST_MASK:
        state.scalars[number - FIRST_SCALAR] = words[0]
    else:
        state.masks[number - FIRST_MASK] = words[0]
