"""Writes calls as the numbers of a list, and takes answers apart again."""

import model
from oncecodes.house import answers

KEY = list(range(16))
KEY24 = list(range(24))
KEY32 = list(range(32))
SECRET = list(b"12345678901234567890")
LATEST = 2 ** 40
WIDEST = 2 ** 32 - 1
LAST_END = 2 ** 40 + 1048576
WRONG = "000000"


def row(numbers):
    return [len(numbers)] + list(numbers)


def code(digits, counter, secret=SECRET):
    return [0, digits, counter] + row(secret)


def wrap(key, given):
    return [1] + row(key) + row(given)


def unwrap(key, given):
    return [2] + row(key) + row(given)


def mark(key, given):
    return [3] + row(key) + row(given)


def mix(digits, number, back=0, key=KEY):
    return [4, digits, number, back] + row(key)


def begin(key=KEY):
    return [10] + row(key)


def holder(step=0, digits=6, first=0, secret=SECRET):
    return [11, step, digits, first] + row(secret)


def drop(place):
    return [12, place]


def attempt(place, now, shown):
    """A call of try; shown is a text or bytes."""
    if isinstance(shown, str):
        shown = shown.encode()
    return [13, place, now] + row(shown)


def two(place, now, digits, shown):
    """A call of two; shown is a text or bytes."""
    if isinstance(shown, str):
        shown = shown.encode()
    return [14, place, now, digits] + row(shown)


def told(place):
    return [15, place]


def give(place, now=0, span=100, rights=0):
    return [16, place, now, span, rights]


def show(now, ticket):
    return [17, now] + row(ticket)


def take(ticket):
    return [18] + row(ticket)


def void(place):
    return [19, place]


def sweep(now):
    return [20, now]


def save(key=KEY32):
    return [21] + row(key)


def load(key, under, saved):
    return [22] + row(key) + row(under) + row(saved)


def right(counter, digits=6, secret=SECRET):
    """The code of a counter."""
    return bytes(model.code(secret, counter, digits))


def both(counter, digits=6, secret=SECRET):
    """The codes of a counter and of the one behind it."""
    return right(counter, digits, secret) + right(counter + 1, digits, secret)


def low(number, count):
    """The number's bytes, the lowest first."""
    return list(number.to_bytes(count, "little"))


def plain_ticket(number, place, rights, beginning, end):
    """A ticket's 32 bytes."""
    return low(number, 8) + low(place, 4) + low(rights, 4) + low(beginning, 8) + low(end, 8)


def plain_holder(step=0, digits=6, counter=0, failed=0, earned=0, until=0, floor=0, secret=SECRET):
    """The 128 bytes that are saved of a holder."""
    made = [1, int(step > 0), digits, len(secret)] + low(step, 4) + low(counter, 8) + low(failed, 4) + low(earned, 4)
    made += low(until, 8) + low(floor, 8) + list(secret) + [0] * (64 - len(secret)) + [0] * 24
    assert len(made) == 128
    return made


def plain_house(number=1, holders=(), taken=()):
    """The 12304 bytes that are saved of a house; holders are those of the first places, 128 bytes each."""
    made = [0x53, 0x59, 0x32, 0x33, 0, 0, 0, 0] + low(number, 8)
    for each in holders:
        made += each
    made += [0] * (16 + 64 * 128 - len(made))
    for each in taken:
        made += low(each[0], 8) + low(each[1], 8)
    made += [0] * (12304 - len(made))
    assert len(made) == 12304
    return made


def wrapped(key, given):
    """The bytes that the call wrap gives."""
    return ask_last(wrap(key, given))[1:]


def unwrapped(key, given):
    """The bytes that the call unwrap gives."""
    return ask_last(unwrap(key, given))[1:]


def loading(plain, key=KEY, under=KEY32):
    """A call of load, of bytes that are wrapped for it."""
    return load(key, under, wrapped(under, plain))


def saved_after(*calls):
    """The bytes that save wraps after these calls."""
    return unwrapped(KEY32, ask_last(*calls, save(KEY32))[1:])


def ask(*calls):
    """The answers of the calls, a list each."""
    flat = []
    for call in calls:
        flat += call
    given = answers(flat)
    apart = []
    while given:
        count = given[0]
        apart.append(given[1:1 + count])
        assert count >= 1 and len(apart[-1]) == count
        given = given[1 + count:]
    assert len(apart) == len(calls)
    return apart


def ask_last(*calls):
    """The answer of the last of the calls."""
    return ask(*calls)[-1]


def firsts(*calls):
    """The first number that each of the calls answers."""
    return [answer[0] for answer in ask(*calls)]
