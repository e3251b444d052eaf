"""Writes calls as the numbers of a list, and takes answers apart again."""

from oncecodes.house import answers

KEY = list(range(16))
KEY24 = list(range(24))
KEY32 = list(range(32))
SECRET = list(b"12345678901234567890")
LATEST = 2 ** 40
WIDEST = 2 ** 32 - 1


def row(numbers):
    return [len(numbers)] + list(numbers)


def code(digits, counter, secret=SECRET):
    return [0, digits, counter] + row(secret)


def wrap(key, given):
    return [1] + row(key) + row(given)


def unwrap(key, given):
    return [2] + row(key) + row(given)


def mark(key, given):
    return [3] + row(key) + row(given)


def mix(digits, number, back=0, key=KEY):
    return [4, digits, number, back] + row(key)


def begin(key=KEY):
    return [10] + row(key)


def holder(step=0, digits=6, first=0, secret=SECRET):
    return [11, step, digits, first] + row(secret)


def drop(place):
    return [12, place]


def attempt(place, now, shown):
    """A call of try; shown is a text or bytes."""
    if isinstance(shown, str):
        shown = shown.encode()
    return [13, place, now] + row(shown)


def ask(*calls):
    """The answers of the calls, a list each."""
    flat = []
    for call in calls:
        flat += call
    given = answers(flat)
    apart = []
    while given:
        count = given[0]
        apart.append(given[1:1 + count])
        assert count >= 1 and len(apart[-1]) == count
        given = given[1 + count:]
    assert len(apart) == len(calls)
    return apart


def ask_last(*calls):
    """The answer of the last of the calls."""
    return ask(*calls)[-1]


def firsts(*calls):
    """The first number that each of the calls answers."""
    return [answer[0] for answer in ask(*calls)]
