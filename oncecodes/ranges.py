"""The ranges from which arguments must be."""

PLACES = 64
# 2^40.
LAST_TIME = 0x10000000000
LAST_FIRST = 0x10000000000
LAST_STEP = 3600
LAST_SPAN = 0x100000
# The last time and the last span together.
LAST_END = 0x10000100000
LAST_RIGHTS = 0xffffffff
LAST_WHOLE = 0xffffffffffffffff


def is_within(number, least, last):
    """Whether the number is from least to last."""
    return least <= number <= last


def are_bytes(row, least, last):
    """Whether these are bytes, from least to last of them."""
    return least <= len(row) <= last and min(row, default=0) >= 0 and max(row, default=0) <= 255


def are_eights(row, least, last):
    """Whether these are bytes, a multiple of 8 of them from least to last."""
    return len(row) % 8 == 0 and are_bytes(row, least, last)


def is_key(row):
    """Whether these bytes can be a key."""
    return len(row) in (16, 24, 32) and are_bytes(row, 16, 32)


def is_secret(row):
    """Whether these bytes can be a holder's secret."""
    return are_bytes(row, 16, 64)


def are_digits(digits):
    """Whether a code can have that many digits."""
    return is_within(digits, 6, 8)


def are_digit_bytes(row):
    """Whether all of these, one at least, are digits."""
    return min(row) >= 0x30 and max(row) <= 0x39


def is_code(row):
    """Whether these bytes are digits, as many as a code can have."""
    return are_digits(len(row)) and are_digit_bytes(row)


def are_two_codes(digits, row):
    """Whether these bytes are digits, twice as many as a code with that many has."""
    return are_digits(digits) and len(row) == 2 * digits and are_digit_bytes(row)


def is_place(place):
    """Whether a house has that place."""
    return is_within(place, 0, PLACES - 1)


def is_time(now):
    """Whether that can be the time."""
    return is_within(now, 0, LAST_TIME)
