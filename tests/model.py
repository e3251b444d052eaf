"""The document once more, written as its sources write it and without the package's own code."""

import functools
import hashlib
import hmac
import struct


def times(a, b):
    """The product in the field of FIPS 197."""
    product = 0
    while b:
        if b & 1:
            product ^= a
        a = (a << 1) ^ (0x11b if a & 128 else 0)
        b >>= 1
    return product


def substitution():
    box = []
    for x in range(256):
        inverse = next((y for y in range(256) if times(x, y) == 1), 0)
        value = 0x63
        for shift in range(5):
            value ^= ((inverse << shift) | (inverse >> (8 - shift))) & 255
        box.append(value)
    return box


BOX = substitution()
TWICE = [times(x, 2) for x in range(256)]
THRICE = [times(x, 3) for x in range(256)]


@functools.cache
def round_keys(key):
    size = len(key) // 4
    words = [list(key[4 * k:4 * k + 4]) for k in range(size)]
    constant = 1
    for k in range(size, 4 * (size + 7)):
        word = list(words[-1])
        if k % size == 0:
            word = [BOX[byte] for byte in word[1:] + word[:1]]
            word[0] ^= constant
            constant = times(constant, 2)
        elif size > 6 and k % size == 4:
            word = [BOX[byte] for byte in word]
        words.append([a ^ b for a, b in zip(words[k - size], word)])
    flat = [byte for word in words for byte in word]
    return [flat[k:k + 16] for k in range(0, len(flat), 16)]


def mix_columns(state):
    out = []
    for k in range(0, 16, 4):
        a, b, c, d = state[k:k + 4]
        out += [TWICE[a] ^ THRICE[b] ^ c ^ d, a ^ TWICE[b] ^ THRICE[c] ^ d,
                a ^ b ^ TWICE[c] ^ THRICE[d], THRICE[a] ^ b ^ c ^ TWICE[d]]
    return out


def block(key, given):
    keys = round_keys(tuple(key))
    state = [a ^ b for a, b in zip(given, keys[0])]
    for turn in range(1, len(keys)):
        state = [BOX[byte] for byte in state]
        state = [state[(5 * k) % 16] for k in range(16)]
        if turn < len(keys) - 1:
            state = mix_columns(state)
        state = [a ^ b for a, b in zip(state, keys[turn])]
    return state


def code(secret, counter, digits):
    digest = hmac.new(bytes(secret), counter.to_bytes(8, "big"), hashlib.sha1).digest()
    offset = digest[-1] & 15
    number = int.from_bytes(digest[offset:offset + 4], "big") & 0x7fffffff
    return list(str(number % 10 ** digits).zfill(digits).encode())


def wrap(key, given):
    check = [0xa6] * 8
    rest = [given[k:k + 8] for k in range(0, len(given), 8)]
    for turn in range(6):
        for k in range(len(rest)):
            made = block(key, check + rest[k])
            step = (len(rest) * turn + k + 1).to_bytes(8, "big")
            check = [a ^ b for a, b in zip(made[:8], step)]
            rest[k] = made[8:]
    return check + [byte for half in rest for byte in half]


def mark(key, given):
    def double(row):
        number = int.from_bytes(bytes(row), "big") << 1
        if number >> 128:
            number = (number ^ 0x87) & (2 ** 128 - 1)
        return list(number.to_bytes(16, "big"))
    subkey = double(block(key, [0] * 16))
    filled = list(given)
    if not filled or len(filled) % 16:
        subkey = double(subkey)
        filled.append(0x80)
        while len(filled) % 16:
            filled.append(0)
    filled[-16:] = [a ^ b for a, b in zip(filled[-16:], subkey)]
    state = [0] * 16
    for k in range(0, len(filled), 16):
        state = block(key, [a ^ b for a, b in zip(state, filled[k:k + 16])])
    return state


def mix(key, digits, number):
    u = digits // 2
    v = digits - u
    a, b = divmod(number, 10 ** v)

    def f(i, y):
        made = block(key, [i, digits] + [0] * 6 + list(y.to_bytes(8, "big")))
        return int.from_bytes(bytes(made[:8]), "big")
    for i in range(10):
        if i % 2 == 0:
            a = (a + f(i, b)) % 10 ** u
        else:
            b = (b + f(i, a)) % 10 ** v
    return 10 ** v * a + b


class House:
    """A house's calls, straight from promises 2 to 9.

    What the model has not wrapped itself, or been told of, it takes for something that doesn't unwrap.
    """

    def __init__(self):
        self.holders = None
        self.key = None
        self.number = None
        self.taken = None
        self.known = {}

    def know(self, key, row, plain):
        """From now on the bytes unwrap to these under the key."""
        self.known[tuple(key), tuple(row)] = list(plain)

    def one(self, place):
        """The holder in the place, or the answer that refuses."""
        if self.holders is None or place > 63:
            return [-2]
        return self.holders.get(place, [-3])

    def begin(self, key):
        if len(key) not in (16, 24, 32):
            return [-2]
        self.key, self.holders, self.number, self.taken = list(key), {}, 1, []
        return [0]

    def holder(self, step, digits, first, secret):
        if self.holders is None or not 16 <= len(secret) <= 64 or step > 3600:
            return [-2]
        if digits not in (6, 7, 8) or first > 2 ** 40:
            return [-2]
        free = [place for place in range(64) if place not in self.holders]
        if not free:
            return [-6]
        self.holders[free[0]] = dict(secret=secret, step=step, digits=digits, next=first, failed=0, until=0, earned=0,
                                     floor=self.number - 1)
        return [free[0]]

    def drop(self, place):
        one = self.one(place)
        if isinstance(one, list):
            return one
        del self.holders[place]
        return [0]

    def judge(self, one, now, good, used):
        if not good:
            one["failed"] = min(one["failed"] + 1, 2 ** 31 - 1)
            if one["failed"] >= 5:
                one["until"] = now + 60
            return [0]
        one["next"] = min(good) + used
        one["failed"] = 0
        one["earned"] = 1
        return [1]

    def attempt(self, place, now, shown):
        shown = list(shown)
        if self.holders is None or now > 2 ** 40 or len(shown) not in (6, 7, 8):
            return [-2]
        if any(byte not in b"0123456789" for byte in shown):
            return [-2]
        one = self.one(place)
        if isinstance(one, list):
            return one
        if now < one["until"]:
            return [-4]
        if one["next"] > 2 ** 60:
            return [-6]
        if one["step"] == 0:
            good = [one["next"] + k for k in range(10)]
        else:
            t = now // one["step"]
            good = [c for c in (t - 1, t, t + 1) if c >= one["next"] and c >= 0]
        good = [c for c in good if code(one["secret"], c, one["digits"]) == shown]
        return self.judge(one, now, good, 1)

    def two(self, place, now, n, shown):
        shown = list(shown)
        if self.holders is None or now > 2 ** 40 or n not in (6, 7, 8) or len(shown) != 2 * n:
            return [-2]
        if any(byte not in b"0123456789" for byte in shown):
            return [-2]
        one = self.one(place)
        if isinstance(one, list):
            return one
        if one["step"] > 0 or now < one["until"]:
            return [-4]
        if one["next"] > 2 ** 60:
            return [-6]
        codes = [code(one["secret"], one["next"] + k, one["digits"]) for k in range(101)]
        good = [one["next"] + k for k in range(100) if [codes[k], codes[k + 1]] == [shown[:n], shown[n:]]]
        return self.judge(one, now, good, 2)

    def told(self, place):
        one = self.one(place)
        if isinstance(one, list):
            return one
        return [0, one["next"], one["failed"], one["until"], one["earned"]]

    def give(self, place, now, span, rights):
        if self.holders is None or now > 2 ** 40 or not 1 <= span <= 1048576:
            return [-2]
        one = self.one(place)
        if isinstance(one, list):
            return one
        if not one["earned"]:
            return [-4]
        if self.number > 2 ** 60:
            return [-6]
        plain = list(struct.pack("<QIIQQ", self.number, place, rights, now, now + span))
        row = wrap(self.key, plain)
        self.know(self.key, row, plain)
        self.number += 1
        one["earned"] = 0
        return [40] + row

    def opened(self, row):
        """The ticket's fields, or None if it isn't the house's."""
        plain = self.known.get((tuple(self.key), tuple(row)))
        if plain is None:
            return None
        number, place, rights, start, end = struct.unpack("<QIIQQ", bytes(plain))
        if not 1 <= number < self.number or place not in self.holders:
            return None
        if self.holders[place]["floor"] >= number or end < start or end > 2 ** 40 + 1048576:
            return None
        return number, place, start, end, plain

    def show(self, now, row):
        if self.holders is None or now > 2 ** 40 or len(row) != 40:
            return [-2]
        fields = self.opened(row)
        if fields is None:
            return [-5]
        number, place, start, end, plain = fields
        if number in dict(self.taken):
            return [-4]
        if now < start or now >= end:
            return [-7]
        return [place] + plain

    def take(self, row):
        if self.holders is None or len(row) != 40:
            return [-2]
        fields = self.opened(row)
        if fields is None:
            return [-5]
        if fields[0] in dict(self.taken):
            return [0]
        if len(self.taken) == 256:
            return [-6]
        self.taken.append((fields[0], fields[3]))
        return [0]

    def void(self, place):
        one = self.one(place)
        if isinstance(one, list):
            return one
        one["floor"] = self.number - 1
        return [0]

    def sweep(self, now):
        if self.holders is None or now > 2 ** 40:
            return [-2]
        self.taken = [(number, end) for number, end in self.taken if not end <= now]
        return [len(self.taken)]

    def save(self, key):
        """12312, then the bytes as they are ahead of wrapping; or the refusal."""
        if self.holders is None or len(key) not in (16, 24, 32):
            return [-2]
        made = bytes.fromhex("53593233") + bytes(4) + struct.pack("<Q", self.number)
        for place in range(64):
            one = self.holders.get(place)
            if one is None:
                made += bytes(128)
            else:
                made += struct.pack("<BBBBIQIIQQ64s24x", 1, one["step"] > 0, one["digits"], len(one["secret"]),
                                    one["step"], one["next"], one["failed"], one["earned"], one["until"],
                                    one["floor"], bytes(one["secret"]))
        for number, end in self.taken:
            made += struct.pack("<QQ", number, end)
        return [12312] + list(made.ljust(12304, b"\0"))

    def load(self, key, under, row):
        if len(key) not in (16, 24, 32) or len(under) not in (16, 24, 32) or len(row) != 12312:
            return [-2]
        plain = self.known.get((tuple(under), tuple(row)))
        if plain is None:
            return [-5]
        plain = bytes(plain)
        number = struct.unpack_from("<Q", plain, 8)[0]
        holders = {place: self.loaded_holder(plain[16 + 128 * place:][:128], number) for place in range(64)}
        taken = self.loaded_list(plain[8208:], number)
        if plain[:8] != b"SY23\0\0\0\0" or not 1 <= number <= 2 ** 60 + 1 or None in (taken, *holders.values()):
            return [-5]
        self.key, self.number, self.taken = list(key), number, taken
        self.holders = {place: one for place, one in holders.items() if one}
        return [0]

    def loaded_holder(self, part, number):
        """The holder, an empty dict where the place is free, or None where no call can make it so."""
        if part == bytes(128):
            return {}
        kind, timed, digits, length, step, ahead, failed, earned, until, floor = struct.unpack("<BBBBIQIIQQ", part[:40])
        if kind != 1 or timed != int(step != 0) or digits not in (6, 7, 8) or step > 3600 or earned not in (0, 1):
            return None
        if not 16 <= length <= 64 or ahead > 2 ** 60 + 101 or failed >= 2 ** 31 or until > 2 ** 40 + 60:
            return None
        if floor >= number or any(part[40 + length:]):
            return None
        return dict(secret=list(part[40:40 + length]), step=step, digits=digits, next=ahead, failed=failed,
                    until=until, earned=earned, floor=floor)

    def loaded_list(self, part, number):
        """The list, or None where no call can make it so."""
        pairs = list(struct.iter_unpack("<QQ", part))
        while pairs and pairs[-1] == (0, 0):
            pairs.pop()
        numbers = [pair[0] for pair in pairs]
        if len(numbers) != len(set(numbers)) or any(not 1 <= each < number for each in numbers):
            return None
        if any(end > 2 ** 40 + 1048576 for each, end in pairs):
            return None
        return pairs
