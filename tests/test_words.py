"""merestone.words: point 01.1."""

import unittest

from merestone.words import (
    add, bit_and, bit_or, bit_xor, is_word, mul, shift_left, shift_right, signed, sub, wrap,
)

EDGES = (0, 1, 2, 255, 256, 300, 32766, 32767, 32768, 32769, 40961, 65534, 65535)


class WordsTest(unittest.TestCase):
    def test_example(self):
        found = [sub(3, 5), signed(sub(3, 5)), mul(300, 300), shift_left(40961, 1)]
        self.assertEqual(found, [65534, -2, 24464, 16386])

    def test_is_word_of_words(self):
        for number in EDGES:
            self.assertIs(is_word(number), True, number)

    def test_is_word_of_other_integers(self):
        for number in (-1, -2, -32768, -65536, -(10 ** 30), 65536, 65537, 131072, 10 ** 30):
            self.assertIs(is_word(number), False, number)

    def test_wrap(self):
        pairs = (
            (0, 0), (1, 1), (32767, 32767), (32768, 32768), (65535, 65535),
            (65536, 0), (65537, 1), (131071, 65535), (131072, 0),
            (-1, 65535), (-32768, 32768), (-65535, 1), (-65536, 0), (-65537, 65535),
            (2 ** 200 + 5, 5), (-(2 ** 200) - 5, 65531), (65536 * 10 ** 40 + 12345, 12345),
        )
        for number, word in pairs:
            self.assertEqual(wrap(number), word, number)

    def test_signed(self):
        pairs = ((0, 0), (1, 1), (32766, 32766), (32767, 32767), (32768, -32768), (32769, -32767),
                 (65534, -2), (65535, -1))
        for word, number in pairs:
            self.assertEqual(signed(word), number, word)

    def test_signed_of_every_word_wraps_to_the_word(self):
        for word in range(65536):
            number = signed(word)
            self.assertTrue(-32768 <= number <= 32767)
            self.assertEqual((number - word) % 65536, 0)

    def test_add(self):
        rows = ((0, 0, 0), (1, 2, 3), (65535, 0, 65535), (65535, 1, 0), (65535, 65535, 65534),
                (32767, 1, 32768), (32768, 32768, 0))
        for first, second, word in rows:
            self.assertEqual(add(first, second), word)
            self.assertEqual(add(second, first), word)

    def test_sub(self):
        rows = ((0, 0, 0), (5, 3, 2), (3, 5, 65534), (0, 1, 65535), (0, 65535, 1), (65535, 65535, 0),
                (0, 32768, 32768), (32767, 32768, 65535))
        for first, second, word in rows:
            self.assertEqual(sub(first, second), word)

    def test_mul(self):
        rows = ((0, 65535, 0), (1, 65535, 65535), (2, 32768, 0), (3, 32768, 32768), (256, 256, 0),
                (300, 300, 24464), (65535, 65535, 1), (2, 65535, 65534))
        for first, second, word in rows:
            self.assertEqual(mul(first, second), word)
            self.assertEqual(mul(second, first), word)

    def test_bits(self):
        rows = (
            (0, 0, 0, 0, 0), (0, 65535, 0, 65535, 65535), (65535, 65535, 65535, 65535, 0),
            (12, 10, 8, 14, 6), (32768, 32767, 0, 65535, 65535), (32768, 32768, 32768, 32768, 0),
            (43690, 21845, 0, 65535, 65535), (61680, 65280, 61440, 65520, 4080),
        )
        for first, second, both, some, one in rows:
            for low, high in ((first, second), (second, first)):
                self.assertEqual((bit_and(low, high), bit_or(low, high), bit_xor(low, high)), (both, some, one))

    def test_bits_one_by_one(self):
        for first in EDGES:
            for second in EDGES:
                pairs = [(first >> place & 1, second >> place & 1) for place in range(16)]
                self.assertEqual(bit_and(first, second), sum(2 ** k for k, (a, b) in enumerate(pairs) if a + b == 2))
                self.assertEqual(bit_or(first, second), sum(2 ** k for k, (a, b) in enumerate(pairs) if a + b > 0))
                self.assertEqual(bit_xor(first, second), sum(2 ** k for k, (a, b) in enumerate(pairs) if a + b == 1))

    def test_shift_left(self):
        rows = ((1, 0, 1), (65535, 0, 65535), (1, 15, 32768), (2, 15, 0), (3, 15, 32768), (65535, 15, 32768),
                (65535, 1, 65534), (40961, 1, 16386), (32768, 1, 0), (0, 15, 0), (255, 8, 65280))
        for word, count, shifted in rows:
            self.assertEqual(shift_left(word, count), shifted, (word, count))

    def test_shift_right(self):
        rows = ((1, 0, 1), (65535, 0, 65535), (32768, 15, 1), (32767, 15, 0), (65535, 15, 1), (65535, 1, 32767),
                (32768, 1, 16384), (1, 1, 0), (0, 15, 0), (65280, 8, 255))
        for word, count, shifted in rows:
            self.assertEqual(shift_right(word, count), shifted, (word, count))

    def test_shifts_by_every_count(self):
        for word in EDGES:
            for count in range(16):
                self.assertEqual(shift_left(word, count), word * 2 ** count % 65536)
                self.assertEqual(shift_right(word, count), word // 2 ** count)

    def test_results_are_integers_that_are_words(self):
        for first in EDGES:
            for second in EDGES:
                for action in (add, sub, mul, bit_and, bit_or, bit_xor):
                    found = action(first, second)
                    self.assertIs(type(found), int)
                    self.assertTrue(0 <= found <= 65535)


if __name__ == "__main__":
    unittest.main()
