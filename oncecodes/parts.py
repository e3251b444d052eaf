"""The calls of the parts: each answers a list of numbers, or a list of its refusal alone."""

from oncecodes.codes import code_of, secret_states
from oncecodes.figures import power_of_ten
from oncecodes.marks import mark_of
from oncecodes.mixing import mixed
from oncecodes.ranges import LAST_WHOLE, are_bytes, are_digits, are_eights, is_key, is_secret, is_within
from oncecodes.refusals import NOT_GENUINE, OUT_OF_RANGE
from oncecodes.wrapping import unwrapped, wrapped


def answer_code(digits, counter, secret):
    """digits, then the code."""
    if not (are_digits(digits) and is_within(counter, 0, LAST_WHOLE) and is_secret(secret)):
        return [OUT_OF_RANGE]
    return [digits] + code_of(secret_states(secret), counter, digits)


def answer_wrap(key, given):
    """How many bytes there are once wrapped, then these."""
    if not (is_key(key) and are_eights(given, 16, 65536)):
        return [OUT_OF_RANGE]
    row = wrapped(key, given)
    return [len(row)] + row


def answer_unwrap(key, given):
    """How many bytes were wrapped, then these."""
    if not (is_key(key) and are_eights(given, 24, 65544)):
        return [OUT_OF_RANGE]
    row = unwrapped(key, given)
    if row is None:
        return [NOT_GENUINE]
    return [len(row)] + row


def answer_mark(key, given):
    """16, then the mark."""
    if not (is_key(key) and are_bytes(given, 0, 65536)):
        return [OUT_OF_RANGE]
    return [16] + mark_of(key, given)


def answer_mix(digits, number, back, key):
    """0, then the number mixed or mixed back."""
    # The power is worked out only once digits is known to be small.
    if not (is_key(key) and is_within(digits, 2, 18) and is_within(number, 0, power_of_ten(digits) - 1)):
        return [OUT_OF_RANGE]
    return [0, mixed(key, digits, number, back)]
