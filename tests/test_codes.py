"""merestone.codes: point 02.1, the table of the instructions."""

import unittest

from merestone.codes import KERNEL_ONLY, OPS, decode, encode, size_of
from merestone.errors import BadCode

# The rows of the document: number, op, and the greatest a, b and c.
ROWS = (
    (0, "halt", 0, 0, 0),
    (1, "set", 7, 0, 0),
    (2, "copy", 7, 7, 0),
    (3, "add", 7, 7, 7),
    (4, "sub", 7, 7, 7),
    (5, "mul", 7, 7, 7),
    (6, "and", 7, 7, 7),
    (7, "or", 7, 7, 7),
    (8, "xor", 7, 7, 7),
    (9, "shl", 7, 7, 15),
    (10, "shr", 7, 7, 15),
    (11, "addi", 7, 7, 15),
    (12, "load", 7, 7, 15),
    (13, "store", 7, 7, 15),
    (14, "jump", 7, 0, 0),
    (15, "jal", 7, 7, 0),
    (16, "beq", 7, 7, 15),
    (17, "bne", 7, 7, 15),
    (18, "blt", 7, 7, 15),
    (19, "call", 0, 0, 15),
    (20, "getu", 7, 7, 0),
    (21, "putu", 7, 7, 0),
    (22, "gets", 7, 0, 6),
    (23, "puts", 7, 0, 4),
    (24, "until", 0, 0, 0),
    (25, "rest", 0, 0, 0),
)


def legal_words():
    """The dict of the words that the rows allow, with what they stand for."""
    found = {}
    for number, op, most_a, most_b, most_c in ROWS:
        for a in range(most_a + 1):
            for b in range(most_b + 1):
                for c in range(most_c + 1):
                    found[number * 1024 + a * 128 + b * 16 + c] = (op, a, b, c)
    return found


class CodesTest(unittest.TestCase):
    def assert_refused(self, op, a, b, c):
        with self.assertRaises(BadCode) as caught:
            encode(op, a, b, c)
        error = caught.exception
        self.assertEqual((error.op, error.a, error.b, error.c), (op, a, b, c))

    def test_examples(self):
        self.assertEqual([encode("add", 1, 2, 3), encode("beq", 0, 7, 8), encode("set", 5, 0, 0)], [3235, 16504, 1664])
        self.assertEqual(
            [decode(3235), decode(3243), decode(0), decode(65535)],
            [("add", 1, 2, 3), None, ("halt", 0, 0, 0), None],
        )
        self.assert_refused("puts", 1, 0, 5)

    def test_ops(self):
        self.assertIs(type(OPS), tuple)
        self.assertEqual(OPS, tuple(row[1] for row in ROWS))
        self.assertIs(type(KERNEL_ONLY), tuple)
        self.assertEqual(KERNEL_ONLY, ("getu", "putu", "gets", "puts", "until", "rest"))

    def test_least_fields_of_every_row(self):
        for number, op, _, _, _ in ROWS:
            self.assertEqual(encode(op, 0, 0, 0), number * 1024, op)
            self.assertEqual(decode(number * 1024), (op, 0, 0, 0), op)

    def test_greatest_fields_of_every_row(self):
        for number, op, a, b, c in ROWS:
            word = number * 1024 + a * 128 + b * 16 + c
            self.assertEqual(encode(op, a, b, c), word, op)
            self.assertEqual(decode(word), (op, a, b, c), op)

    def test_each_field_one_beyond(self):
        for _, op, a, b, c in ROWS:
            self.assert_refused(op, a + 1, b, c)
            self.assert_refused(op, a, b + 1, c)
            self.assert_refused(op, a, b, c + 1)
            self.assert_refused(op, a + 1, 0, 0)
            self.assert_refused(op, 0, b + 1, 0)
            self.assert_refused(op, 0, 0, c + 1)

    def test_each_field_below_0(self):
        for _, op, a, b, c in ROWS:
            self.assert_refused(op, -1, b, c)
            self.assert_refused(op, a, -1, c)
            self.assert_refused(op, a, b, -1)

    def test_fields_far_beyond(self):
        for _, op, _, _, _ in ROWS:
            for far in (16, 128, 1024, 65536, -8, -65536, 10 ** 30):
                self.assert_refused(op, far, 0, 0)
                self.assert_refused(op, 0, far, 0)
                self.assert_refused(op, 0, 0, far)

    def test_the_field_of_addi_is_not_signed(self):
        # The field stands for -8 and -1; the field itself is 8 and 15.
        self.assertEqual([encode("addi", 1, 2, c) for c in (7, 8, 15)], [11431, 11432, 11439])
        for c in (-8, -1, 16):
            self.assert_refused("addi", 1, 2, c)

    def test_ops_that_are_none(self):
        for op in ("", "nop", "Halt", "halt ", "HALT", "word", "r0", "0", "subi"):
            self.assert_refused(op, 0, 0, 0)

    def test_decode_of_every_word(self):
        legal = legal_words()
        self.assertEqual(len(legal), 11651)
        for word in range(65536):
            self.assertEqual(decode(word), legal.get(word), word)

    def test_encode_of_what_decode_returns(self):
        for word in range(65536):
            parts = decode(word)
            if parts is not None:
                self.assertIs(type(parts), tuple)
                self.assertEqual(encode(*parts), word)

    def test_decode_of_integers_that_are_no_words(self):
        for number in (-1, -1024, -26624, 65536, 65536 + 3235, 10 ** 30):
            self.assertIsNone(decode(number), number)

    def test_size_of(self):
        for op in OPS:
            self.assertEqual(size_of(op), 2 if op == "set" else 1, op)


if __name__ == "__main__":
    unittest.main()
