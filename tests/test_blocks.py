"""What the parts are built on: blocks and their tables."""

import random
import unittest

import model
from oncecodes.blocks import cipher_words, ciphered, decipher_words, deciphered
from oncecodes.gather_tables import GATHER0, GATHER1, GATHER2, GATHER3, UNBOX
from oncecodes.spread_tables import BOX, SPREAD0, SPREAD1, SPREAD2, SPREAD3


def turned(word, count):
    return (word >> 8 * count | word << 32 - 8 * count) & 0xffffffff


class Tables(unittest.TestCase):
    def test_substitution_and_its_undoing(self):
        self.assertEqual(list(BOX), model.BOX)
        self.assertEqual([UNBOX[byte] for byte in BOX], list(range(256)))

    def check_columns(self, tables, box, factors):
        for count, table in enumerate(tables):
            self.assertEqual(len(table), 256)
            for byte in range(256):
                column = bytes(model.times(box[byte], factor) for factor in factors)
                self.assertEqual(table[byte], turned(int.from_bytes(column, "big"), count))

    def test_columns(self):
        self.check_columns([SPREAD0, SPREAD1, SPREAD2, SPREAD3], BOX, [2, 1, 1, 3])

    def test_columns_undone(self):
        self.check_columns([GATHER0, GATHER1, GATHER2, GATHER3], UNBOX, [14, 9, 13, 11])


class Blocks(unittest.TestCase):
    def check(self, key, plain, made):
        self.assertEqual(ciphered(cipher_words(key), plain), made)
        self.assertEqual(deciphered(decipher_words(key), made), plain)

    def test_examples_of_fips_197(self):
        plain = 0x00112233445566778899aabbccddeeff
        self.check(list(range(16)), plain, 0x69c4e0d86a7b0430d8cdb78070b4c55a)
        self.check(list(range(24)), plain, 0xdda97ca4864cdfe06eaf70a0ec0d7191)
        self.check(list(range(32)), plain, 0x8ea2b7ca516745bfeafc49904b496089)

    def test_like_the_model(self):
        chance = random.Random(197)
        for length in (16, 24, 32) * 20:
            key = [chance.randrange(256) for k in range(length)]
            plain = [chance.randrange(256) for k in range(16)]
            made = model.block(key, plain)
            self.check(key, int.from_bytes(bytes(plain), "big"), int.from_bytes(bytes(made), "big"))


if __name__ == "__main__":
    unittest.main()
