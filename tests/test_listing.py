"""merestone.listing: point 04.5."""

import random
import unittest

from merestone.assembling import assemble
from merestone.codes import decode, encode
from merestone.listing import listing


class ListingTest(unittest.TestCase):
    def assert_round(self, words, base=0):
        """Assembling the lines gives the words again."""
        before = list(words)
        lines = listing(words, base)
        self.assertEqual(assemble("\n".join(lines), base).words, before, (words, base))
        self.assertEqual(words, before)

    def test_example(self):
        words = [1152, 22, 11423, 17542, 0, 3, 1024]
        lines = ["set r1, 22", "addi r1, r1, -1", "bne r1, r0, 18", "halt", "word 3", "word 1024"]
        self.assertEqual(listing(words, 16), lines)
        self.assert_round(words, 16)

    def test_a_line_for_every_op(self):
        for parts, line in (
            (("halt", 0, 0, 0), "halt"), (("until", 0, 0, 0), "until"), (("rest", 0, 0, 0), "rest"),
            (("copy", 1, 7, 0), "copy r1, r7"), (("jal", 0, 7, 0), "jal r0, r7"), (("getu", 1, 2, 0), "getu r1, r2"),
            (("putu", 2, 1, 0), "putu r2, r1"), (("add", 1, 2, 3), "add r1, r2, r3"),
            (("sub", 0, 0, 7), "sub r0, r0, r7"), (("mul", 1, 2, 3), "mul r1, r2, r3"),
            (("and", 1, 2, 3), "and r1, r2, r3"), (("or", 1, 2, 3), "or r1, r2, r3"),
            (("xor", 1, 2, 3), "xor r1, r2, r3"), (("shl", 1, 2, 15), "shl r1, r2, 15"),
            (("shr", 1, 2, 0), "shr r1, r2, 0"), (("load", 1, 2, 15), "load r1, r2, 15"),
            (("store", 1, 2, 8), "store r1, r2, 8"), (("jump", 7, 0, 0), "jump r7"),
            (("beq", 1, 2, 8), "beq r1, r2, 101"), (("bne", 1, 2, 0), "bne r1, r2, 93"),
            (("blt", 1, 2, 15), "blt r1, r2, 108"), (("call", 0, 0, 15), "call 15"),
            (("gets", 3, 0, 6), "gets r3, 6"), (("puts", 3, 0, 4), "puts r3, 4"),
            (("addi", 1, 2, 0), "addi r1, r2, 0"), (("addi", 1, 2, 7), "addi r1, r2, 7"),
            (("addi", 1, 2, 8), "addi r1, r2, -8"), (("addi", 1, 2, 15), "addi r1, r2, -1"),
        ):
            self.assertEqual(listing([encode(*parts)], 100), [line])
            self.assert_round([encode(*parts)], 100)
        self.assertEqual(listing([encode("set", 4, 0, 0), 65535], 100), ["set r4, 65535"])

    def test_no_words(self):
        self.assertEqual(listing([]), [])
        self.assertEqual(listing([], 65535), [])

    def test_illegal_words(self):
        lines = ["word 1", "word 65535", "halt", "word 32768", "word 1025"]
        self.assertEqual(listing([1, 65535, 0, 32768, 1025]), lines)

    def test_a_set_at_the_end(self):
        for number in range(8):
            content = encode("set", number, 0, 0)
            self.assertEqual(listing([content]), [f"word {content}"])
            self.assertEqual(listing([0, content]), ["halt", f"word {content}"])
            self.assertEqual(listing([content, content]), [f"set r{number}, {content}"])
            self.assertEqual(listing([content, content, content]), [f"set r{number}, {content}", f"word {content}"])

    def test_the_next_word_of_a_set_is_no_instruction(self):
        self.assertEqual(listing([encode("set", 1, 0, 0), 0, 0]), ["set r1, 0", "halt"])

    def test_branches_over_0_and_over_65535(self):
        self.assertEqual(listing([encode("beq", 0, 0, 0)]), ["beq r0, r0, 65529"])
        self.assertEqual(listing([encode("beq", 0, 0, 6)], 0), ["beq r0, r0, 65535"])
        self.assertEqual(listing([encode("beq", 0, 0, 7)], 0), ["beq r0, r0, 0"])
        self.assertEqual(listing([encode("beq", 0, 0, 15)], 65535), ["beq r0, r0, 7"])
        self.assertEqual(listing([encode("beq", 0, 0, 8)], 65535), ["beq r0, r0, 0"])
        self.assertEqual(listing([0, encode("beq", 0, 0, 8)], 65534), ["halt", "beq r0, r0, 0"])
        for op in ("beq", "bne", "blt"):
            for c in range(16):
                for base in (0, 1, 6, 7, 65528, 65529, 65535):
                    self.assert_round([encode(op, 1, 2, c)], base)

    def test_every_word_from_both_ends(self):
        for word in range(65536):
            if decode(word) is None:
                self.assertEqual(listing([word]), [f"word {word}"])
        words = [word for word in range(65536) if decode(word) is not None]
        self.assert_round(words)
        self.assert_round(words[:1])
        self.assert_round(words, 65536 - len(words))
        self.assert_round(list(range(65536)))

    def test_words_as_they_come(self):
        source = random.Random(4)
        for _ in range(200):
            words = [source.choice((source.randrange(65536), source.randrange(26 * 1024), 1024)) for _ in range(30)]
            self.assert_round(words, source.choice((0, 16, 65506, 1000)))

    def test_the_list_is_new(self):
        words = [0, 0]
        first = listing(words)
        first.append("x")
        self.assertEqual(listing(words), ["halt", "halt"])


if __name__ == "__main__":
    unittest.main()
