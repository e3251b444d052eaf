"""SHA-1 by its blocks, as much of it as codes need."""

WORD = 0xffffffff
START = (0x67452301, 0xefcdab89, 0x98badcfe, 0x10325476, 0xc3d2e1f0)


def stretched(words):
    """A block's 16 words and the 64 that are drawn from them."""
    drawn = list(words)
    for k in range(16, 80):
        word = drawn[k - 3] ^ drawn[k - 8] ^ drawn[k - 14] ^ drawn[k - 16]
        drawn.append(((word << 1) | (word >> 31)) & WORD)
    return drawn


def blended(k, b, c, d):
    """What step k makes of three words, with the constant of that step added."""
    if k < 20:
        return (d ^ (b & (c ^ d))) + 0x5a827999
    if k < 40:
        return (b ^ c ^ d) + 0x6ed9eba1
    if k < 60:
        return ((b & c) | (d & (b | c))) + 0x8f1bbcdc
    return (b ^ c ^ d) + 0xca62c1d6


def absorbed(state, words):
    """The state of five words once a block of 16 words has been taken in."""
    a = state[0]
    b = state[1]
    c = state[2]
    d = state[3]
    e = state[4]
    for k, word in enumerate(stretched(words)):
        fresh = (((a << 5) | (a >> 27)) + blended(k, b, c, d) + e + word) & WORD
        e = d
        d = c
        c = ((b << 30) | (b >> 2)) & WORD
        b = a
        a = fresh
    return [(old + new) & WORD for old, new in zip(state, [a, b, c, d, e])]


def closing_block(words, length):
    """The last block of a text of length bytes, that ends with these words, 13 at most."""
    return words + [0x80000000] + [0] * (14 - len(words)) + [8 * length]
