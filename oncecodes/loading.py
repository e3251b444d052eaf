"""A house from the bytes that were saved of it."""

from oncecodes.figures import number_low_first
from oncecodes.holders import LAST_COUNTER, LAST_FAILED, LOCKED_FOR, PAIRS_AHEAD, Holder
from oncecodes.ranges import LAST_END, LAST_STEP, LAST_TIME, PLACES, are_digits, is_secret, is_within
from oncecodes.saving import ENTRY_SIZE, HEAD, HOLDER_SIZE, house_bytes
from oncecodes.state import LAST_NUMBER, LIST_PLACES, House
from oncecodes.wrapping import unwrapped

# Of a house that is saved and wrapped.
SAVED_SIZE = 12312


def parts_of(row, start, size, count):
    """As many parts of the row as are counted, each of that size, from start on."""
    return [row[start + size * k:start + size * (k + 1)] for k in range(count)]


def read_holder(row):
    """The holder that the bytes tell of, or None where the place is free."""
    if row[0] == 0:
        return None
    secret = row[40:40 + row[3]]
    step = number_low_first(row[4:8])
    holder = Holder(secret, step, row[2], number_low_first(row[8:16]), number_low_first(row[32:40]))
    holder.failed = number_low_first(row[16:20])
    holder.earned = number_low_first(row[20:24])
    holder.until = number_low_first(row[24:32])
    return holder


def read_list(row, start):
    """The numbers and ends that the bytes from start on tell of, up to the first free place."""
    taken = []
    for entry in parts_of(row, start, ENTRY_SIZE, LIST_PLACES):
        number = number_low_first(entry[0:8])
        if number == 0:
            break
        taken.append((number, number_low_first(entry[8:16])))
    return taken


def read_house(key, row):
    """The house that the bytes tell of, whether there can be such a one or not."""
    start = len(HEAD) + 8
    house = House(key)
    house.number = number_low_first(row[len(HEAD):start])
    house.holders = [read_holder(part) for part in parts_of(row, start, HOLDER_SIZE, PLACES)]
    house.taken = read_list(row, start + HOLDER_SIZE * PLACES)
    return house


def can_be_holder(holder, number):
    """Whether a house whose next ticket has that number can have the holder."""
    if not (is_secret(holder.secret) and is_within(holder.step, 0, LAST_STEP) and are_digits(holder.digits)):
        return False
    # The last of the pairs ahead may have been taken at the last counter.
    if not (holder.counter <= LAST_COUNTER + PAIRS_AHEAD + 1 and holder.failed <= LAST_FAILED):
        return False
    return holder.until <= LAST_TIME + LOCKED_FOR and holder.earned <= 1 and holder.floor < number


def can_be_list(taken, number):
    """Whether a house whose next ticket has that number can have taken these back."""
    if len(set([entry[0] for entry in taken])) != len(taken):
        return False
    return all([entry[0] < number and entry[1] <= LAST_END for entry in taken])


def can_be_house(house):
    """Whether all of the house's numbers are from their ranges."""
    if not is_within(house.number, 1, LAST_NUMBER + 1):
        return False
    holders = [holder for holder in house.holders if holder is not None]
    return all([can_be_holder(holder, house.number) for holder in holders]) and can_be_list(house.taken, house.number)


def loaded_house(key, under, saved):
    """The house with that key, as it was saved under the other; None if no house is saved so."""
    row = unwrapped(under, saved)
    if row is None:
        return None
    house = read_house(key, row)
    # Bytes that tell nothing, such as those of free places, are held to what saving writes.
    if can_be_house(house) and house_bytes(house) == row:
        return house
    return None
