"""Words of 64 bits and their bytes, eight each, the lowest first."""


def word_bytes(words):
    """The words as bytes."""
    content = []
    for word in words:
        for place in range(0, 64, 8):
            content.append((word >> place) & 255)
    return content


def words_at(content, at, count):
    """So many words of the bytes, from an offset on."""
    words = []
    for first in range(at, at + 8 * count, 8):
        word = 0
        for byte in reversed(content[first:first + 8]):
            word = word * 256 + byte
        words.append(word)
    return words
