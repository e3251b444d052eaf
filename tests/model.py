"""The document once more, written as its sources write it and without the package's own code."""

import hashlib
import hmac


def times(a, b):
    """The product in the field of FIPS 197."""
    product = 0
    while b:
        if b & 1:
            product ^= a
        a = (a << 1) ^ (0x11b if a & 128 else 0)
        b >>= 1
    return product


def substitution():
    box = []
    for x in range(256):
        inverse = next((y for y in range(256) if times(x, y) == 1), 0)
        value = 0x63
        for shift in range(5):
            value ^= ((inverse << shift) | (inverse >> (8 - shift))) & 255
        box.append(value)
    return box


BOX = substitution()


def round_keys(key):
    size = len(key) // 4
    words = [list(key[4 * k:4 * k + 4]) for k in range(size)]
    constant = 1
    for k in range(size, 4 * (size + 7)):
        word = list(words[-1])
        if k % size == 0:
            word = [BOX[byte] for byte in word[1:] + word[:1]]
            word[0] ^= constant
            constant = times(constant, 2)
        elif size > 6 and k % size == 4:
            word = [BOX[byte] for byte in word]
        words.append([a ^ b for a, b in zip(words[k - size], word)])
    flat = [byte for word in words for byte in word]
    return [flat[k:k + 16] for k in range(0, len(flat), 16)]


def mix_columns(state):
    out = []
    for k in range(0, 16, 4):
        a, b, c, d = state[k:k + 4]
        out += [times(a, 2) ^ times(b, 3) ^ c ^ d, a ^ times(b, 2) ^ times(c, 3) ^ d,
                a ^ b ^ times(c, 2) ^ times(d, 3), times(a, 3) ^ b ^ c ^ times(d, 2)]
    return out


def block(key, given):
    keys = round_keys(key)
    state = [a ^ b for a, b in zip(given, keys[0])]
    for turn in range(1, len(keys)):
        state = [BOX[byte] for byte in state]
        state = [state[(5 * k) % 16] for k in range(16)]
        if turn < len(keys) - 1:
            state = mix_columns(state)
        state = [a ^ b for a, b in zip(state, keys[turn])]
    return state


def code(secret, counter, digits):
    digest = hmac.new(bytes(secret), counter.to_bytes(8, "big"), hashlib.sha1).digest()
    offset = digest[-1] & 15
    number = int.from_bytes(digest[offset:offset + 4], "big") & 0x7fffffff
    return list(str(number % 10 ** digits).zfill(digits).encode())


def wrap(key, given):
    check = [0xa6] * 8
    rest = [given[k:k + 8] for k in range(0, len(given), 8)]
    for turn in range(6):
        for k in range(len(rest)):
            made = block(key, check + rest[k])
            step = (len(rest) * turn + k + 1).to_bytes(8, "big")
            check = [a ^ b for a, b in zip(made[:8], step)]
            rest[k] = made[8:]
    return check + [byte for half in rest for byte in half]


def mark(key, given):
    def double(row):
        number = int.from_bytes(bytes(row), "big") << 1
        if number >> 128:
            number = (number ^ 0x87) & (2 ** 128 - 1)
        return list(number.to_bytes(16, "big"))
    subkey = double(block(key, [0] * 16))
    filled = list(given)
    if not filled or len(filled) % 16:
        subkey = double(subkey)
        filled.append(0x80)
        while len(filled) % 16:
            filled.append(0)
    filled[-16:] = [a ^ b for a, b in zip(filled[-16:], subkey)]
    state = [0] * 16
    for k in range(0, len(filled), 16):
        state = block(key, [a ^ b for a, b in zip(state, filled[k:k + 16])])
    return state


def mix(key, digits, number):
    u = digits // 2
    v = digits - u
    a, b = divmod(number, 10 ** v)

    def f(i, y):
        made = block(key, [i, digits] + [0] * 6 + list(y.to_bytes(8, "big")))
        return int.from_bytes(bytes(made[:8]), "big")
    for i in range(10):
        if i % 2 == 0:
            a = (a + f(i, b)) % 10 ** u
        else:
            b = (b + f(i, a)) % 10 ** v
    return 10 ** v * a + b


class House:
    """The calls begin, holder, drop and try, straight from promises 2 to 4."""

    def __init__(self):
        self.holders = None

    def begin(self, key):
        if len(key) not in (16, 24, 32):
            return -2
        self.holders = {}
        return 0

    def holder(self, step, digits, first, secret):
        if self.holders is None or not 16 <= len(secret) <= 64 or step > 3600:
            return -2
        if digits not in (6, 7, 8) or first > 2 ** 40:
            return -2
        free = [place for place in range(64) if place not in self.holders]
        if not free:
            return -6
        self.holders[free[0]] = dict(secret=secret, step=step, digits=digits, next=first, failed=0, until=0)
        return free[0]

    def drop(self, place):
        if self.holders is None or place > 63:
            return -2
        if place not in self.holders:
            return -3
        del self.holders[place]
        return 0

    def attempt(self, place, now, shown):
        shown = list(shown)
        if self.holders is None or place > 63 or now > 2 ** 40 or len(shown) not in (6, 7, 8):
            return -2
        if any(byte not in b"0123456789" for byte in shown):
            return -2
        if place not in self.holders:
            return -3
        one = self.holders[place]
        if now < one["until"]:
            return -4
        if one["step"] == 0:
            good = [one["next"] + k for k in range(10)]
        else:
            t = now // one["step"]
            good = [c for c in (t - 1, t, t + 1) if c >= one["next"] and c >= 0]
        for counter in good:
            if code(one["secret"], counter, one["digits"]) == shown:
                one["next"] = counter + 1
                one["failed"] = 0
                return 1
        one["failed"] += 1
        if one["failed"] >= 5:
            one["until"] = now + 60
        return 0
