"""A block by the cipher of FIPS 197 (AES).

A block is one whole number of 128 bits, its first byte the highest. That makes the parts which are
built on it (wrapping, marks, mixing) mere sums and shifts.
"""

from oncecodes.figures import numbers_high_first
from oncecodes.gather_tables import GATHER0, GATHER1, GATHER2, GATHER3, UNBOX
from oncecodes.spread_tables import BOX, SPREAD0, SPREAD1, SPREAD2, SPREAD3

WORD = 0xffffffff


def boxed(box, a, b, c, d):
    """The column of the first byte of a, the second of b, the third of c and the last of d, by the table."""
    upper = (box[a >> 24] << 24) | (box[(b >> 16) & 255] << 16)
    return upper | (box[(c >> 8) & 255] << 8) | box[d & 255]


def substituted(word):
    """The word with each of its four bytes substituted."""
    return boxed(BOX, word, word, word, word)


def turned(word):
    """The word with its first byte put last."""
    return ((word << 8) | (word >> 24)) & WORD


def doubled(constant):
    """The constant of the key's next turn: twice this one in the cipher's field."""
    twice = constant << 1
    if twice > 255:
        return twice ^ 0x11b
    return twice


def cipher_words(key):
    """The words that are added to a block, four before the first round and four in each."""
    words = numbers_high_first(key, 4)
    length = len(words)
    constant = 1
    while len(words) < 4 * (length + 7):
        word = words[len(words) - 1]
        if len(words) % length == 0:
            word = substituted(turned(word)) ^ (constant << 24)
            constant = doubled(constant)
        elif length == 8 and len(words) % 8 == 4:
            word = substituted(word)
        words.append(words[len(words) - length] ^ word)
    return words


def unmixed(word):
    """The column with its mixing undone."""
    # The tables undo the substitution too, so each byte is substituted first.
    first = GATHER0[BOX[word >> 24]] ^ GATHER1[BOX[(word >> 16) & 255]]
    return first ^ GATHER2[BOX[(word >> 8) & 255]] ^ GATHER3[BOX[word & 255]]


def decipher_words(key):
    """The words that are added to a block when it is deciphered, in the order of their use."""
    words = cipher_words(key)
    last = len(words) - 4
    used = []
    for start in range(last, -1, -4):
        four = words[start:start + 4]
        # The rounds undo the mixing before they add, so what they add is unmixed as well.
        if 0 < start < last:
            four = [unmixed(word) for word in four]
        used.extend(four)
    return used


def joined(a, b, c, d):
    """The block of four columns."""
    return (a << 96) | (b << 64) | (c << 32) | d


def ciphered(words, block):
    """The block enciphered, by the words that cipher_words gives."""
    a = (block >> 96) ^ words[0]
    b = ((block >> 64) & WORD) ^ words[1]
    c = ((block >> 32) & WORD) ^ words[2]
    d = (block & WORD) ^ words[3]
    last = len(words) - 4
    for k in range(4, last, 4):
        e = SPREAD0[a >> 24] ^ SPREAD1[(b >> 16) & 255] ^ SPREAD2[(c >> 8) & 255] ^ SPREAD3[d & 255] ^ words[k]
        f = SPREAD0[b >> 24] ^ SPREAD1[(c >> 16) & 255] ^ SPREAD2[(d >> 8) & 255] ^ SPREAD3[a & 255] ^ words[k + 1]
        g = SPREAD0[c >> 24] ^ SPREAD1[(d >> 16) & 255] ^ SPREAD2[(a >> 8) & 255] ^ SPREAD3[b & 255] ^ words[k + 2]
        d = SPREAD0[d >> 24] ^ SPREAD1[(a >> 16) & 255] ^ SPREAD2[(b >> 8) & 255] ^ SPREAD3[c & 255] ^ words[k + 3]
        a = e
        b = f
        c = g
    e = boxed(BOX, a, b, c, d) ^ words[last]
    f = boxed(BOX, b, c, d, a) ^ words[last + 1]
    g = boxed(BOX, c, d, a, b) ^ words[last + 2]
    return joined(e, f, g, boxed(BOX, d, a, b, c) ^ words[last + 3])


def deciphered(words, block):
    """The block deciphered, by the words that decipher_words gives."""
    a = (block >> 96) ^ words[0]
    b = ((block >> 64) & WORD) ^ words[1]
    c = ((block >> 32) & WORD) ^ words[2]
    d = (block & WORD) ^ words[3]
    last = len(words) - 4
    for k in range(4, last, 4):
        e = GATHER0[a >> 24] ^ GATHER1[(d >> 16) & 255] ^ GATHER2[(c >> 8) & 255] ^ GATHER3[b & 255] ^ words[k]
        f = GATHER0[b >> 24] ^ GATHER1[(a >> 16) & 255] ^ GATHER2[(d >> 8) & 255] ^ GATHER3[c & 255] ^ words[k + 1]
        g = GATHER0[c >> 24] ^ GATHER1[(b >> 16) & 255] ^ GATHER2[(a >> 8) & 255] ^ GATHER3[d & 255] ^ words[k + 2]
        d = GATHER0[d >> 24] ^ GATHER1[(c >> 16) & 255] ^ GATHER2[(b >> 8) & 255] ^ GATHER3[a & 255] ^ words[k + 3]
        a = e
        b = f
        c = g
    e = boxed(UNBOX, a, d, c, b) ^ words[last]
    f = boxed(UNBOX, b, a, d, c) ^ words[last + 1]
    g = boxed(UNBOX, c, b, a, d) ^ words[last + 2]
    return joined(e, f, g, boxed(UNBOX, d, c, b, a) ^ words[last + 3])
