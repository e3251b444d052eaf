"""Promise 1: code, wrap, unwrap, mark, mix."""

import random
import unittest

import model
from calls import KEY, KEY24, KEY32, SECRET, WIDEST
from calls import ask, ask_last, begin, code, firsts, mark, mix, unwrap, wrap

# The numbers of RFC 4226's table, ahead of their cutting down to digits.
TABLE = [1284755224, 1094287082, 137359152, 1726969429, 1640338314,
         868254676, 1918287922, 82162583, 673399871, 645520489]

WRAPPED = [
    (KEY, 16, "1fa68b0a8112b447aef34bd8fb5a7b829d3e862371d2cfe5"),
    (KEY24, 16, "96778b25ae6ca435f92b5b97c050aed2468ab8a17ad84e5d"),
    (KEY32, 16, "64e8c3f9ce0f5ba263e9777905818a2a93c8191e7d6e8ae7"),
    (KEY24, 24, "031d33264e15d33268f24ec260743edce1c6c7ddee725a936ba814915c6762d2"),
    (KEY32, 24, "a8f9bc1612c68b3ff6e6f4fbe30e71e4769c8b80a32cb8958cd5d17d6b254da1"),
    (KEY32, 32, "28c9f404c4b810f4cbccb35cfb87f8263f5786e2d80ed326cbc7f0e71a99f43bfb988b9b7a02dd21"),
]
PLAIN = bytes.fromhex("00112233445566778899aabbccddeeff000102030405060708090a0b0c0d0e0f")

MARKED = bytes.fromhex(
    "6bc1bee22e409f96e93d7e117393172aae2d8a571e03ac9c9eb76fac45af8e51"
    "30c81c46a35ce411e5fbc1191a0a52eff69f2445df4f9b17ad2b417be66c3710")
MARKS = {
    "2b7e151628aed2a6abf7158809cf4f3c": [
        (0, "bb1d6929e95937287fa37d129b756746"), (16, "070a16b46b4d4144f79bdd9dd04a287c"),
        (40, "dfa66747de9ae63030ca32611497c827"), (64, "51f0bebf7e3b9d92fc49741779363cfe")],
    "8e73b0f7da0e6452c810f32b809079e562f8ead2522c6b7b": [
        (0, "d17ddf46adaacde531cac483de7a9367"), (16, "9e99a7bf31e710900662f65e617c5184"),
        (40, "8a1de5be2eb31aad089a82e6ee908b0e"), (64, "a1d5df0eed790f794d77589659f39a11")],
    "603deb1015ca71be2b73aef0857d77811f352c073b6108d72d9810a30914dff4": [
        (0, "028962f61b7bf89efc6b551f4667d983"), (16, "28a7023f452e8f82bd4bf28d8c37c35c"),
        (40, "aaf3d8f1de5640c232f5b169b9c911e6"), (64, "e1992190549f6ed5696a2c056c315410")],
}

# Worked out from the words of "Mixed" with blocks of another program: key's length, digits, number, mixed.
MIXED = [
    (16, 2, 0, 89), (16, 2, 99, 15), (16, 3, 0, 37), (16, 3, 999, 469),
    (16, 6, 123456, 717171), (16, 7, 1234567, 3966806), (16, 17, 12345678901234567, 77227607370569382),
    (16, 18, 0, 566919506213156500), (16, 18, 999999999999999999, 446741421450598434),
    (24, 2, 0, 91), (24, 3, 999, 184), (24, 7, 1234567, 8976156), (24, 18, 0, 520532988428257941),
    (32, 2, 99, 43), (32, 3, 0, 14), (32, 6, 123456, 99494), (32, 17, 12345678901234567, 96055174418716505),
]

NO_KEYS = [[], [7] * 15, [7] * 17, [7] * 23, [7] * 25, [7] * 31, [7] * 33, [7] * 64, [7] * 100]


class Codes(unittest.TestCase):
    def test_table_of_rfc_4226(self):
        for digits in (6, 7, 8):
            for counter, number in enumerate(TABLE):
                text = str(number % 10 ** digits).zfill(digits)
                self.assertEqual(ask_last(code(digits, counter)), [digits] + list(text.encode()))

    def test_codes_begin_with_0_too(self):
        # RFC 6238's second example: the counter of 1111111109 seconds.
        self.assertEqual(ask_last(code(8, 1111111109 // 30)), [8] + list(b"07081804"))

    def test_great_counters(self):
        for counter in (2 ** 32 - 1, 2 ** 32, 2 ** 60, 2 ** 64 - 1):
            self.assertEqual(ask_last(code(7, counter)), [7] + model.code(SECRET, counter, 7))

    def test_secrets_of_each_length(self):
        for length in range(16, 65):
            secret = [(37 * k + length) % 256 for k in range(length)]
            self.assertEqual(ask_last(code(8, length, secret)), [8] + model.code(secret, length, 8))

    def test_secrets_just_beyond(self):
        for length in (0, 1, 15, 65, 100):
            self.assertEqual(ask_last(code(6, 0, [49] * length)), [-2])

    def test_digits_just_beyond(self):
        for digits in (0, 5, 9, WIDEST):
            self.assertEqual(ask_last(code(digits, 0)), [-2])

    def test_no_bytes_and_no_counter(self):
        self.assertEqual(firsts(code(6, 0, [256] * 16), code(6, 0, [-1] * 16), code(6, 2 ** 64), code(6, -1)), [-2] * 4)


class Wrapping(unittest.TestCase):
    def test_examples_of_rfc_3394(self):
        for key, length, text in WRAPPED:
            plain = list(PLAIN[:length])
            row = list(bytes.fromhex(text))
            self.assertEqual(ask_last(wrap(key, plain)), [length + 8] + row)
            self.assertEqual(ask_last(unwrap(key, row)), [length] + plain)

    def test_any_changed_byte_is_seen(self):
        for key, length, text in WRAPPED:
            row = list(bytes.fromhex(text))
            for k in range(len(row)):
                changed = list(row)
                changed[k] ^= 1 << k % 8
                self.assertEqual(ask_last(unwrap(key, changed)), [-5])

    def test_another_key_is_seen(self):
        row = list(bytes.fromhex(WRAPPED[0][2]))
        self.assertEqual(firsts(unwrap([1] + KEY[1:], row), unwrap(KEY24, row), unwrap(KEY, row)), [-5, -5, 16])

    def test_like_the_model(self):
        chance = random.Random(3394)
        for length in (16, 24, 104, 400):
            for size in (16, 24, 32):
                key = [chance.randrange(256) for k in range(size)]
                plain = [chance.randrange(256) for k in range(length)]
                row = model.wrap(key, plain)
                self.assertEqual(ask(wrap(key, plain), unwrap(key, row)), [[length + 8] + row, [length] + plain])

    def test_as_long_as_a_list_of_calls_lets_it_be(self):
        plain = [k % 251 for k in range(15896)]
        made = ask_last(wrap(KEY, plain))
        self.assertEqual(made[0], 15904)
        self.assertEqual(ask_last(unwrap(KEY, made[1:])), [15896] + plain)

    def test_lengths_of_what_is_wrapped(self):
        for length in (0, 1, 7, 8, 9, 15, 17, 20, 23, 25, 1001):
            self.assertEqual(ask_last(wrap(KEY, [5] * length)), [-2])
        self.assertEqual(firsts(wrap(KEY, [5] * 16), wrap(KEY, [5] * 24)), [24, 32])
        self.assertEqual(ask_last(wrap(KEY, [5] * 65544)), [-2])

    def test_lengths_of_what_is_unwrapped(self):
        for length in (0, 1, 8, 16, 23, 25, 31, 33, 1001):
            self.assertEqual(ask_last(unwrap(KEY, [5] * length)), [-2])
        self.assertEqual(firsts(unwrap(KEY, [5] * 24), unwrap(KEY, [5] * 32)), [-5, -5])
        self.assertEqual(ask_last(unwrap(KEY, [5] * 65552)), [-2])

    def test_greatest_lengths(self):
        made = ask_last(wrap(KEY, [5] * 65536))
        self.assertEqual(made[0], 65544)
        self.assertEqual(ask_last(unwrap(KEY, made[1:])), [65536] + [5] * 65536)

    def test_lengths_of_keys(self):
        for key in NO_KEYS:
            self.assertEqual(firsts(wrap(key, [5] * 16), unwrap(key, [5] * 24)), [-2, -2])

    def test_no_bytes(self):
        self.assertEqual(firsts(wrap(KEY, [256] * 16), unwrap(KEY, [-1] * 24), wrap([256] * 16, [5] * 16)), [-2] * 3)


class Marks(unittest.TestCase):
    def test_examples_of_rfc_4493_and_sp_800_38b(self):
        for key, marks in MARKS.items():
            for length, text in marks:
                answer = ask_last(mark(list(bytes.fromhex(key)), list(MARKED[:length])))
                self.assertEqual(answer, [16] + list(bytes.fromhex(text)))

    def test_like_the_model_at_each_length(self):
        for length in range(0, 50):
            given = [(11 * k + length) % 256 for k in range(length)]
            for key in (KEY, KEY24, KEY32):
                self.assertEqual(ask_last(mark(key, given)), [16] + model.mark(key, given))

    def test_greatest_length(self):
        self.assertEqual(firsts(mark(KEY, [5] * 65536), mark(KEY, [5] * 65537)), [16, -2])

    def test_lengths_of_keys(self):
        for key in NO_KEYS:
            self.assertEqual(ask_last(mark(key, [5] * 16)), [-2])

    def test_no_bytes(self):
        self.assertEqual(firsts(mark(KEY, [256]), mark(KEY, [0, -1])), [-2, -2])


class Mixing(unittest.TestCase):
    def test_worked_out_numbers(self):
        for length, digits, number, made in MIXED:
            key = list(range(length))
            self.assertEqual(ask(mix(digits, number, 0, key), mix(digits, made, 1, key)), [[0, made], [0, number]])

    def test_like_the_model_for_each_number_of_digits(self):
        chance = random.Random(10)
        for digits in range(2, 19):
            for number in (0, 10 ** digits - 1, chance.randrange(10 ** digits)):
                made = model.mix(KEY24, digits, number)
                answers = ask(mix(digits, number, 0, KEY24), mix(digits, made, WIDEST, KEY24))
                self.assertEqual(answers, [[0, made], [0, number]])

    def test_every_number_has_its_own(self):
        for digits in (2, 3):
            size = 10 ** digits
            made = [ask_last(mix(digits, number))[1] for number in range(size)]
            self.assertEqual(sorted(made), list(range(size)))
            self.assertEqual([ask_last(mix(digits, number, 2))[1] for number in made], list(range(size)))

    def test_numbers_just_beyond(self):
        for digits in (2, 3, 17, 18):
            for back in (0, 1):
                answers = firsts(mix(digits, 10 ** digits - 1, back), mix(digits, 10 ** digits, back))
                self.assertEqual(answers, [0, -2])
        self.assertEqual(firsts(mix(18, 2 ** 64 - 1), mix(2, 2 ** 64 - 1), mix(2, -1)), [-2] * 3)

    def test_digits_just_beyond(self):
        self.assertEqual(firsts(mix(0, 0), mix(1, 0), mix(2, 0), mix(18, 0), mix(19, 0), mix(WIDEST, 0)),
                         [-2, -2, 0, 0, -2, -2])

    def test_lengths_of_keys(self):
        for key in NO_KEYS:
            self.assertEqual(firsts(mix(2, 0, 0, key), mix(2, 0, 1, key)), [-2, -2])


class ByThemselves(unittest.TestCase):
    def test_parts_need_no_house_and_heed_none(self):
        parts = [code(6, 1), wrap(KEY, [1] * 16), unwrap(KEY, [1] * 24), mark(KEY, []), mix(2, 5)]
        self.assertEqual(ask(*parts), ask(begin(KEY32), *parts)[1:])


if __name__ == "__main__":
    unittest.main()
