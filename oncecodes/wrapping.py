"""Bytes wrapped under a key: RFC 3394."""

from oncecodes.blocks import cipher_words, ciphered, decipher_words, deciphered
from oncecodes.figures import bytes_high_first, numbers_high_first

INITIAL = 0xa6a6a6a6a6a6a6a6
HALF = 0xffffffffffffffff
TURNS = 6


def halves_as_bytes(halves):
    """The bytes of numbers of eight bytes each, one behind another."""
    row = []
    for half in halves:
        row.extend(bytes_high_first(half, 8))
    return row


def wrapped(key, given):
    """The bytes wrapped, eight more than are given."""
    words = cipher_words(key)
    halves = numbers_high_first(given, 8)
    check = INITIAL
    step = 0
    for turn in range(TURNS):
        for k in range(len(halves)):
            step += 1
            block = ciphered(words, (check << 64) | halves[k])
            check = (block >> 64) ^ step
            halves[k] = block & HALF
    return halves_as_bytes([check] + halves)


def unwrapped(key, given):
    """What was wrapped, or None if the initial value isn't there."""
    words = decipher_words(key)
    halves = numbers_high_first(given, 8)
    check = halves.pop(0)
    step = TURNS * len(halves)
    for turn in range(TURNS):
        for k in range(len(halves) - 1, -1, -1):
            block = deciphered(words, ((check ^ step) << 64) | halves[k])
            check = block >> 64
            halves[k] = block & HALF
            step -= 1
    if check != INITIAL:
        return None
    return halves_as_bytes(halves)
