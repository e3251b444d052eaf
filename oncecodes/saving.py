"""A house as bytes, and these wrapped under a key."""

from oncecodes.figures import bytes_low_first
from oncecodes.ranges import is_key
from oncecodes.refusals import OUT_OF_RANGE
from oncecodes.state import LIST_PLACES
from oncecodes.wrapping import wrapped

HEAD = (0x53, 0x59, 0x32, 0x33, 0, 0, 0, 0)
HOLDER_SIZE = 128
ENTRY_SIZE = 16


def filled_up(row, size):
    """The bytes with 0s behind them, size in all."""
    return row + [0] * (size - len(row))


def holder_bytes(holder):
    """What is saved of a place: its holder, or 0s where it is free."""
    if holder is None:
        return [0] * HOLDER_SIZE
    timed = 1 if holder.step != 0 else 0
    row = [1, timed, holder.digits, len(holder.secret)]
    row.extend(bytes_low_first(holder.step, 4))
    row.extend(bytes_low_first(holder.counter, 8))
    row.extend(bytes_low_first(holder.failed, 4))
    row.extend(bytes_low_first(holder.earned, 4))
    row.extend(bytes_low_first(holder.until, 8))
    row.extend(bytes_low_first(holder.floor, 8))
    row.extend(holder.secret)
    return filled_up(row, HOLDER_SIZE)


def list_bytes(taken):
    """What is saved of the tickets that were taken back."""
    row = []
    for entry in taken:
        row.extend(bytes_low_first(entry[0], 8) + bytes_low_first(entry[1], 8))
    return filled_up(row, LIST_PLACES * ENTRY_SIZE)


def house_bytes(house):
    """All that is saved of a house; its key isn't."""
    row = list(HEAD) + bytes_low_first(house.number, 8)
    for holder in house.holders:
        row.extend(holder_bytes(holder))
    return row + list_bytes(house.taken)


def answer_save(house, key):
    """How many bytes the house has once it is wrapped under the key, then these."""
    if not is_key(key):
        return [OUT_OF_RANGE]
    row = wrapped(key, house_bytes(house))
    return [len(row)] + row
