"""Numbers below a power of ten, mixed among themselves."""

from oncecodes.blocks import cipher_words, ciphered
from oncecodes.figures import power_of_ten

ROUNDS = 10


def share(words, turn, digits, half):
    """The number that one round adds: the first eight bytes of its block."""
    return ciphered(words, (turn << 120) | (digits << 112) | half) >> 64


def mixed(key, digits, number, back):
    """The number mixed, or where back isn't 0 the number that was mixed into it."""
    words = cipher_words(key)
    upper = power_of_ten(digits // 2)
    lower = power_of_ten(digits - digits // 2)
    a = number // lower
    b = number % lower
    sign = 1
    turns = list(range(ROUNDS))
    if back != 0:
        sign = -1
        turns = list(range(ROUNDS - 1, -1, -1))
    for turn in turns:
        if turn % 2 == 0:
            a = (a + sign * share(words, turn, digits, b)) % upper
        else:
            b = (b + sign * share(words, turn, digits, a)) % lower
    return lower * a + b
