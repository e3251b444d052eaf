"""The code of a secret and a counter: HOTP of RFC 4226."""

from oncecodes.digests import START, absorbed, closing_block
from oncecodes.figures import numbers_high_first, power_of_ten


def masked_state(secret, mask):
    """The state behind a first block of the secret, filled up with 0s, each byte under the mask."""
    filled = secret + [0] * (64 - len(secret))
    return absorbed(START, numbers_high_first([byte ^ mask for byte in filled], 4))


def secret_states(secret):
    """What all codes of a secret of up to 64 bytes begin with: the inner and the outer state."""
    return (masked_state(secret, 0x36), masked_state(secret, 0x5c))


def counter_digest(states, counter):
    """The five words of HMAC-SHA-1 of the counter's eight bytes."""
    # Each text has a first block of 64 bytes, which the states stand for.
    inner = absorbed(states[0], closing_block([counter >> 32, counter & 0xffffffff], 64 + 8))
    return absorbed(states[1], closing_block(inner, 64 + 20))


def cut_out(digest):
    """The 31 bits that RFC 4226 picks from five words, at the place that their last four bits tell."""
    whole = 0
    for word in digest:
        whole = (whole << 32) | word
    offset = whole & 15
    return (whole >> (8 * (16 - offset))) & 0x7fffffff


def code_of(states, counter, digits):
    """The code's digits as bytes, by the states that secret_states gives."""
    number = cut_out(counter_digest(states, counter))
    return [0x30 + (number // power_of_ten(k)) % 10 for k in range(digits - 1, -1, -1)]
