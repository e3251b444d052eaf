"""Whole numbers as bytes, and powers of ten."""


def bytes_high_first(number, count):
    """The number's lowest count bytes, the highest of them first."""
    return [(number >> (8 * k)) & 255 for k in range(count - 1, -1, -1)]


def number_high_first(row):
    """The number whose bytes, the highest first, are these."""
    number = 0
    for byte in row:
        number = (number << 8) | byte
    return number


def numbers_high_first(row, width):
    """The numbers of each width bytes that stand one behind another in the row."""
    return [number_high_first(row[k:k + width]) for k in range(0, len(row), width)]


def bytes_low_first(number, count):
    """The number's lowest count bytes, the lowest of them first."""
    return [(number >> (8 * k)) & 255 for k in range(count)]


def number_low_first(row):
    """The number whose bytes, the lowest first, are these."""
    number = 0
    for k, byte in enumerate(row):
        number = number | (byte << (8 * k))
    return number


def power_of_ten(exponent):
    """A 1 with as many 0s behind it."""
    power = 1
    for k in range(exponent):
        power = power * 10
    return power
