"""The mark of some bytes under a key: CMAC of SP 800-38B (RFC 4493)."""

from oncecodes.blocks import cipher_words, ciphered
from oncecodes.figures import bytes_high_first, number_high_first, numbers_high_first

BLOCK = 0xffffffffffffffffffffffffffffffff


def shifted(block):
    """The block doubled in the field of marks."""
    if block >> 127 == 1:
        return ((block << 1) & BLOCK) ^ 0x87
    return block << 1


def last_block(subkey, rest):
    """What is added last: the rest, up to 16 bytes, filled up if need be, under its own subkey."""
    if len(rest) == 16:
        return number_high_first(rest) ^ subkey
    filled = rest + [0x80] + [0] * (15 - len(rest))
    return number_high_first(filled) ^ shifted(subkey)


def mark_of(key, given):
    """The 16 bytes of the mark."""
    words = cipher_words(key)
    subkey = shifted(ciphered(words, 0))
    # The last block is told apart even if it is full, so up to 16 bytes stay for it.
    ahead = max(len(given) - 1, 0) // 16 * 16
    state = 0
    for block in numbers_high_first(given[:ahead], 16):
        state = ciphered(words, state ^ block)
    return bytes_high_first(ciphered(words, state ^ last_block(subkey, given[ahead:])), 16)
