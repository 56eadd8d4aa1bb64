"""merestone.assembling: points 04.1 to 04.4."""

import unittest

from merestone.assembling import Assembly, assemble
from merestone.codes import KERNEL_ONLY, OPS, encode
from merestone.errors import Malformed, OutOfRange, TooLarge, Twice, Unknown

DIRECTIVES = ("word", "space", "page", "equ")
N24 = "abcdefghijklmnopqrstuv_9"
N25 = N24 + "x"


class TextTest(unittest.TestCase):
    def assert_words(self, text, words, base=0):
        self.assertEqual(assemble(text, base).words, words, text)

    def assert_names(self, text, names, base=0):
        self.assertEqual(assemble(text, base).names, names, text)

    def assert_malformed(self, text, line, column):
        with self.assertRaises(Malformed, msg=repr(text)) as caught:
            assemble(text)
        self.assertEqual((caught.exception.line, caught.exception.column), (line, column), repr(text))

    def assert_out_of_range(self, text, line, column, base=0):
        with self.assertRaises(OutOfRange, msg=repr(text)) as caught:
            assemble(text, base)
        self.assertEqual((caught.exception.line, caught.exception.column), (line, column), repr(text))

    def assert_named(self, kind, text, name, line, column, base=0):
        """Twice or Unknown."""
        with self.assertRaises(kind, msg=repr(text)) as caught:
            assemble(text, base)
        error = caught.exception
        self.assertEqual((error.name, error.line, error.column), (name, line, column), repr(text))

    def assert_too_large(self, text, base=0):
        with self.assertRaises(TooLarge, msg=repr(text)) as caught:
            assemble(text, base)
        self.assertEqual(caught.exception.limit, "words")


class ExamplesTest(TextTest):
    def test_examples(self):
        text = ("equ N, 3\nstart: set r1, table + 1 ; far\nloop: addi r1, r1, -1\n bne r1, r0, loop\n halt\n"
                "table: word N, -N")
        found = assemble(text, 16)
        self.assertEqual(found.words, [1152, 22, 11423, 17542, 0, 3, 65533])
        self.assertEqual(found.names, {"N": 3, "start": 16, "loop": 18, "table": 21})
        self.assertIsInstance(found, Assembly)
        self.assertIs(type(found.words), list)
        self.assertIs(type(found.names), dict)
        self.assert_named(Twice, "x: set r1, 7\nx: halt", "x", 2, 1)

    def test_an_assembly_keeps_what_it_is_given(self):
        found = Assembly([1, 2], {"a": 3})
        self.assertEqual((found.words, found.names), ([1, 2], {"a": 3}))

    def test_what_is_returned_is_new(self):
        first, second = assemble("a: word 1"), assemble("a: word 1")
        first.words.append(7)
        first.names["b"] = 8
        self.assertEqual((second.words, second.names), ([1], {"a": 0}))


class RowsTest(TextTest):
    """Every row of the table of point 04.2."""

    def test_ops_without_operands(self):
        for op in ("halt", "until", "rest"):
            self.assert_words(op, [encode(op, 0, 0, 0)])
            self.assert_malformed(f"{op} r1", 1, len(op) + 2)
            self.assert_malformed(f"{op},", 1, len(op) + 1)

    def test_ops_of_two_registers(self):
        for op in ("copy", "jal", "getu", "putu"):
            self.assert_words(f"{op} r0, r0", [encode(op, 0, 0, 0)])
            self.assert_words(f"{op} r7, r1", [encode(op, 7, 1, 0)])
            self.assert_words(f"{op} r1, r7", [encode(op, 1, 7, 0)])

    def test_ops_of_three_registers(self):
        for op in ("add", "sub", "mul", "and", "or", "xor"):
            self.assert_words(f"{op} r0, r0, r0", [encode(op, 0, 0, 0)])
            self.assert_words(f"{op} r7, r1, r2", [encode(op, 7, 1, 2)])
            self.assert_words(f"{op} r1, r2, r7", [encode(op, 1, 2, 7)])
            self.assert_malformed(f"{op} r1, r2, 3", 1, len(op) + 10)

    def test_fields_from_0_to_15(self):
        for op in ("shl", "shr", "load", "store"):
            for c in (0, 1, 14, 15):
                self.assert_words(f"{op} r3, r4, {c}", [encode(op, 3, 4, c)])
                self.assert_words(f"{op} r3, r4, -1 + {c + 1}", [encode(op, 3, 4, c)])
            for c in ("16", "-1", "65535", "15 + 1", "0 - 1"):
                self.assert_out_of_range(f"{op} r3, r4, {c}", 1, len(op) + 10)

    def test_addi(self):
        for value, c in ((-8, 8), (-7, 9), (-1, 15), (0, 0), (1, 1), (7, 7)):
            self.assert_words(f"addi r3, r4, {value}", [encode("addi", 3, 4, c)])
        for value in ("8", "-9", "15", "65535"):
            self.assert_out_of_range(f"addi r3, r4, {value}", 1, 14)

    def test_branches(self):
        for op in ("beq", "bne", "blt"):
            for c in (0, 7, 8, 15):
                self.assert_words(f"{op} r3, r4, {100 + c - 7}", [encode(op, 3, 4, c)], 100)
            for place in (92, 109, 65535, 0):
                self.assert_out_of_range(f"{op} r3, r4, {place}", 1, 13, 100)

    def test_branches_over_0_and_over_65535(self):
        self.assert_words("beq r0, r0, 65529", [encode("beq", 0, 0, 0)])
        self.assert_words("beq r0, r0, -7", [encode("beq", 0, 0, 0)])
        self.assert_words("beq r0, r0, 65535", [encode("beq", 0, 0, 6)])
        self.assert_words("beq r0, r0, -1", [encode("beq", 0, 0, 6)])
        self.assert_words("beq r0, r0, 7", [encode("beq", 0, 0, 14)])
        self.assert_words("beq r0, r0, 7", [encode("beq", 0, 0, 15)], 65535)
        self.assert_words("beq r0, r0, 0", [encode("beq", 0, 0, 8)], 65535)
        self.assert_words("beq r0, r0, 65528", [encode("beq", 0, 0, 0)], 65535)
        self.assert_out_of_range("beq r0, r0, 8", 1, 13, 65535)
        self.assert_out_of_range("beq r0, r0, 9", 1, 13)
        self.assert_out_of_range("beq r0, r0, -8", 1, 13)

    def test_places_of_branches(self):
        self.assert_words("beq r0, r0, -32768", [encode("beq", 0, 0, 7)], 32768)
        self.assert_out_of_range("beq r0, r0, -32769", 1, 13, 32767)
        self.assert_words("beq r0, r0, 65535", [encode("beq", 0, 0, 7)], 65535)
        # The place 65536 would be 0, but it is none.
        self.assert_out_of_range("beq r0, r0, 65535 + 1", 1, 13)
        self.assert_out_of_range("beq r0, r0, end\nend:", 1, 13, 65535)

    def test_jump(self):
        for number in range(8):
            self.assert_words(f"jump r{number}", [encode("jump", number, 0, 0)])
        self.assert_malformed("jump 5", 1, 6)

    def test_call(self):
        for c in (0, 1, 15):
            self.assert_words(f"call {c}", [encode("call", 0, 0, c)])
        for c in (16, -1, 65535):
            self.assert_out_of_range(f"call {c}", 1, 6)

    def test_gets_and_puts(self):
        for op, most in (("gets", 6), ("puts", 4)):
            for c in range(most + 1):
                self.assert_words(f"{op} r5, {c}", [encode(op, 5, 0, c)])
            for c in (most + 1, 15, -1, 65535):
                self.assert_out_of_range(f"{op} r5, {c}", 1, 10)

    def test_set(self):
        for value, content in ((0, 0), (65535, 65535), (-1, 65535), (-32768, 32768), (32768, 32768)):
            self.assert_words(f"set r6, {value}", [encode("set", 6, 0, 0), content])
        for value in ("-32769", "65535 + 1", "-65535", "0 - 32769", "65535 + 65535"):
            self.assert_out_of_range(f"set r6, {value}", 1, 9)

    def test_word(self):
        self.assert_words("word 0", [0])
        self.assert_words("word 65535, -32768, -1, 5 + 6 - 7", [65535, 32768, 65535, 4])
        self.assert_out_of_range("word -32769", 1, 6)
        self.assert_out_of_range("word 0, 65535 + 1, -32769", 1, 9)
        self.assert_words("word " + ", ".join(str(k) for k in range(300)), list(range(300)))

    def test_space(self):
        self.assert_words("space 0", [])
        self.assert_words("space 1\nword 5", [0, 5])
        self.assert_words("space 65535 + 1", [0] * 65536)
        self.assert_out_of_range("space -1", 1, 7)
        self.assert_out_of_range("space 65535 + 2", 1, 7)
        self.assert_out_of_range("a: space 3 - 4", 1, 10)

    def test_page(self):
        for base, many in ((0, 0), (1, 15), (15, 1), (16, 0), (17, 15), (65520, 0), (65521, 15), (65535, 1)):
            self.assert_words("page", [0] * many, base)
            self.assert_names("page\na:", {"a": base + many}, base)
        self.assert_words("word 1\npage\nword 2\npage\npage", [1] + [0] * 15 + [2] + [0] * 15)
        self.assert_malformed("page 1", 1, 6)

    def test_equ(self):
        self.assert_names("equ a, 65535\nequ b, -32768\nequ c, a + b - 1", {"a": 65535, "b": -32768, "c": 32766})
        self.assert_words("equ a, 5", [])
        self.assert_out_of_range("equ a, 65535 + 1", 1, 8)
        self.assert_out_of_range("equ a, -32769", 1, 8)

    def test_every_op_has_a_row(self):
        operands = {"": "", "R": "r1", "RR": "r1, r2", "RRR": "r1, r2, r3", "RRE": "r1, r2, 3", "RE": "r1, 2", "E": "1"}
        for op in OPS:
            fitting = []
            for form, text in operands.items():
                try:
                    fitting.append((form, assemble(f"{op} {text}").words))
                except Malformed:
                    pass
            self.assertEqual(len(fitting), 1, op)


class NamesTest(TextTest):
    def test_labels(self):
        self.assert_names("a: halt\nb:\nc: set r1, 0\nd: word 1, 2\ne:", {"a": 5, "b": 6, "c": 6, "d": 8, "e": 10}, 5)
        self.assert_words("a: word b, a, c\nb: word a\nc:", [8, 5, 9, 5], 5)

    def test_a_name_is_known_everywhere_but_in_equ_and_space(self):
        self.assert_words("set r1, far\nfar: halt", [encode("set", 1, 0, 0), 2, 0])
        self.assert_words("call n\nload r1, r2, n\nequ n, 7", [encode("call", 0, 0, 7), encode("load", 1, 2, 7)])
        self.assert_named(Unknown, "equ a, far\nfar:", "far", 1, 8)
        self.assert_named(Unknown, "space far\nequ far, 2", "far", 1, 7)
        self.assert_words("equ far, 2\nspace far", [0, 0])
        self.assert_words("word 1\nhere: space here + 1", [1, 0, 0])

    def test_an_equ_and_its_own_names(self):
        self.assert_named(Unknown, "equ a, a", "a", 1, 8)
        self.assert_names("a: equ b, a + 1", {"a": 3, "b": 4}, 3)
        self.assert_named(Twice, "a: equ a, 5", "a", 1, 8)

    def test_an_equ_below_0(self):
        self.assert_names("equ a, -5\nequ b, a - a - a", {"a": -5, "b": 5})
        self.assert_words("equ a, -5\nword a, -a, a + 6\naddi r1, r1, a", [65531, 5, 1, encode("addi", 1, 1, 11)])
        self.assert_out_of_range("equ a, -5\ncall a", 2, 6)
        self.assert_out_of_range("equ a, -5\nspace a", 2, 7)

    def test_equ_is_kept_as_it_is(self):
        self.assert_words("equ a, 65535\naddi r1, r1, a - 65535 - 1", [encode("addi", 1, 1, 15)])
        self.assert_out_of_range("equ a, 65535\naddi r1, r1, a", 2, 14)

    def test_values_within_an_expression_are_not_bounded(self):
        self.assert_words("word 65535 + 65535 - 65535 - 65535 + 3", [3])
        self.assert_words("equ a, 65535\nword -a - a + a + a", [0])

    def test_long_names(self):
        self.assert_names(f"{N24}: word {N24}", {N24: 0})
        self.assert_malformed(f"{N25}: halt", 1, 1)
        self.assert_malformed(f"  word 1, {N25}", 1, 11)
        self.assert_malformed(f"{'r' * 1000}: halt", 1, 1)

    def test_names_and_case(self):
        self.assert_names("a:\nA:\na_:\na0:\nR1:\nr10:\nr:\nr1_:\nHalt:", dict.fromkeys(
            ("a", "A", "a_", "a0", "R1", "r10", "r", "r1_", "Halt"), 0))
        self.assert_named(Unknown, "word R1", "R1", 1, 6)

    def test_words_of_ops_and_directives_are_names_too(self):
        for name in (*OPS, *DIRECTIVES):
            self.assert_names(f"{name}:", {name: 0})
            self.assert_words(f"word 9\n{name}: word {name}", [9, 1])
            self.assert_words(f"equ {name}, 4\ncall {name}", [encode("call", 0, 0, 4)])
        self.assert_words("halt: halt\nword halt", [0, 0])
        self.assert_words("equ: equ space, 3\nword: word equ, space", [0, 3])

    def test_registers_are_no_names(self):
        for number in range(8):
            self.assert_malformed(f"r{number}: halt", 1, 1)
            self.assert_malformed(f"equ r{number}, 5", 1, 5)
            self.assert_malformed(f"word r{number}", 1, 6)
            self.assert_malformed(f"word 1 + r{number}", 1, 10)
            self.assert_malformed(f"r{number} r1, r2", 1, 1)
        for name in ("r8", "r9", "r00", "r01", "r7a"):
            self.assert_names(f"{name}: word {name}", {name: 0})
            self.assert_malformed(f"copy {name}, r1", 1, 6)
            self.assert_named(Unknown, f"word {name}", name, 1, 6)

    def test_a_name_that_begins_a_statement(self):
        self.assert_malformed("nop", 1, 1)
        self.assert_malformed("a: nop", 1, 4)
        self.assert_malformed("a: b: halt", 1, 4)
        self.assert_malformed("a halt", 1, 1)
        self.assert_malformed("a + : halt", 1, 1)
        self.assert_malformed("HALT", 1, 1)
        self.assert_malformed("a: halt: halt", 1, 8)

    def test_every_name_is_defined_once(self):
        self.assert_named(Twice, "a:\n a : halt", "a", 2, 2)
        self.assert_named(Twice, "equ a, 1\nequ a, 1", "a", 2, 5)
        self.assert_named(Twice, "a:\nb: equ a, 1", "a", 2, 8)
        self.assert_named(Twice, "equ a, 1\n  a: halt", "a", 2, 3)
        self.assert_named(Twice, "a:\nb:\nb:\na:", "b", 3, 1)


class TokensTest(TextTest):
    def test_numbers(self):
        for text, content in (("0", 0), ("1", 1), ("9", 9), ("10", 10), ("65535", 65535), ("9999", 9999)):
            self.assert_words(f"word {text}", [content])
        for text in ("00", "01", "000", "00001", "65536", "65540", "99999", "100000", "1" * 5000, "0" * 5000):
            self.assert_malformed(f"word {text}", 1, 6)

    def test_a_number_with_a_letter_behind_it(self):
        for text in ("5a", "5_", "0x10", "0a", "65535Z", "5r1", "12345_", "1e5", "00a"):
            self.assert_malformed(f"word {text}", 1, 6)
            self.assert_malformed(f"{text}: halt", 1, 1)

    def test_tokens_are_as_long_as_they_can_be(self):
        self.assert_words("word 1+2-3,4", [0, 4])
        self.assert_words("equ a1,3\nword a1", [3])
        self.assert_named(Unknown, "equ a, 3\nword a1", "a1", 2, 6)

    def test_spaces(self):
        self.assert_words("a:set r1,b-a+1\nb:halt", [encode("set", 1, 0, 0), 3, 0])
        text = "   a   :   set    r1  ,   b   -   a   +   1   \n   b   :   halt   "
        self.assert_words(text, [encode("set", 1, 0, 0), 3, 0])
        self.assert_words("word-1", [65535])
        self.assert_words("word - 1", [65535])
        self.assert_malformed("setr1, 5", 1, 1)
        self.assert_malformed("word 1 2", 1, 8)
        self.assert_malformed("set r 1, 5", 1, 5)

    def test_remarks(self):
        self.assert_words("halt ; set r1 $ 00 \x7f\t\xe9 \"", [0])
        self.assert_words(";\n;;\n ; a: b: c\nhalt;halt", [0])
        self.assert_names("a:;b:", {"a": 0})
        self.assert_malformed("set r1,;5", 1, 8)

    def test_empty_lines(self):
        self.assert_words("", [])
        self.assert_words("\n\n   \n", [])
        self.assert_words("\n\nhalt\n\n", [0])
        self.assert_malformed("\n\n\nnop", 4, 1)

    def test_characters_that_begin_no_token(self):
        for character in "!\"#$%&'()*/<=>?@[\\]^_`{|}~\t\r\x00\x0b\x0c\x1f\x7f\x85\xa0\xe9\xb2\u0661\u2028\U0001f600":
            self.assert_malformed(f"halt {character}", 1, 6)
            self.assert_malformed(f"{character}halt", 1, 1)
            if character != "_":
                self.assert_malformed(f"ab{character}: halt", 1, 3)
                self.assert_malformed(f"word 5{character}", 1, 7)
            self.assert_malformed(f"halt\nhalt {character} ;", 2, 6)
            self.assert_words(f"halt;{character}", [0])

    def test_the_first_bad_character_comes_ahead_of_a_token_that_does_not_fit(self):
        self.assert_malformed("nop $", 1, 5)
        self.assert_malformed("$ nop", 1, 1)
        self.assert_malformed("set 5, 5 $ &", 1, 10)
        self.assert_malformed("set r1 r2 00", 1, 11)
        self.assert_malformed(f"set r1 r2 {N25} $", 1, 11)
        self.assert_malformed("set r1 r2 5a $", 1, 11)
        self.assert_malformed("set r1 $ 5a", 1, 8)
        self.assert_malformed("set r1 r2 ; $", 1, 8)

    def test_lines_are_read_from_the_first_one_on(self):
        self.assert_malformed("nop\n$", 1, 1)
        self.assert_malformed("set r1,\n$", 1, 8)
        self.assert_malformed("halt\nset r1\nnop", 2, 7)


class FormsTest(TextTest):
    def test_a_line_that_ends_too_early_after_each_token(self):
        for text in ("set r1, 5", "a: set r1, 5 + a", "copy r1, r2", "add r1, r2, r3", "addi r1, r2, -3", "call 5",
                     "beq r1, r2, a", "jump r1", "gets r1, 4", "equ a, 5 - 4", "word 1, 2", "space 0", "word - 1"):
            tokens = text.replace(",", " ,").replace(":", " :").split()
            for many in range(1, len(tokens)):
                begin = " ".join(tokens[:many])
                if begin in ("a :", "word 1", "equ a , 5", "a : set r1 , 5"):
                    continue
                if begin == "a":
                    self.assert_malformed(begin, 1, 1)
                    continue
                for ending in ("", "  ", " ; more"):
                    self.assert_malformed(begin + ending, 1, len(begin) + 1)

    def test_the_column_behind_the_last_token(self):
        self.assert_malformed("  set   r1   ", 1, 11)
        self.assert_malformed("word", 1, 5)
        self.assert_malformed("word 65535 +", 1, 13)
        self.assert_malformed("halt\n a : word 12345 ,   ; x", 2, 18)

    def test_a_token_too_many(self):
        for text in ("halt", "set r1, 5", "copy r1, r2", "add r1, r2, r3", "shl r1, r2, 3", "beq r1, r2, 3", "jump r1",
                     "call 5", "puts r1, 4", "space 3", "page", "equ a, 5", "word 5"):
            for more in ("r1", ":", "7", "x"):
                # A single name and `:` are a label.
                if more != ":" or text not in ("halt", "page"):
                    self.assert_malformed(f"{text} {more}", 1, len(text) + 2)
            if text != "word 5":
                self.assert_malformed(f"{text} , 5", 1, len(text) + 2)
        self.assert_malformed("word 5, 6, ", 1, 11)
        self.assert_malformed("word 5,, 6", 1, 8)

    def test_tokens_that_do_not_fit(self):
        for text, column in (
            (":", 1), (",", 1), ("5", 1), ("-", 1), ("+", 1), ("r1", 1), ("a: 5", 4), ("a: :", 4), ("a:: halt", 3),
            ("set 5, r1", 5), ("set x, 5", 5), ("set , 5", 5), ("set r1 5", 8), ("set r1, r2", 9), ("set r1, , 5", 9),
            ("set r1, + 5", 9), ("set r1, - - 5", 11), ("set r1, 5 + - 5", 13), ("set r1, 5 - + 5", 13),
            ("set r1, -+5", 10), ("set r1, 5 x", 11), ("set r1, x 5", 11), ("set r1, x: 5", 10), ("word : 5", 8),
            ("copy r1, 2", 10), ("add r1, r2, r", 13), ("add r1, r2", 11), ("addi r1, r2, r3", 14), ("jump r8", 6),
            ("call r1", 6), ("equ 5, 5", 5), ("equ a 5", 7), ("equ a: 5", 6), ("equ -a, 5", 5), ("space", 6),
            ("space r1", 7), ("space , 5", 7), ("5: halt", 1), ("- a: halt", 1), ("a, b: halt", 1),
        ):
            self.assert_malformed(text, 1, column)

    def test_expressions(self):
        for text, content in (
            ("5", 5), ("-5", 65531), ("5 + 6", 11), ("5 - 6", 65535), ("-5 + 6", 1), ("-5 - 6", 65525),
            ("1 - 2 - 3", 65532), ("1 - 2 + 3", 2), ("a", 100), ("-a", 65436), ("b - a", 1), ("-a + b", 1),
            ("a + a + a - b - b", 98), ("0 - 0", 0), ("-0", 0),
        ):
            self.assertEqual(assemble(f"equ a, 100\nequ b, 101\nword {text}").words, [content], text)


class ErrorsTest(TextTest):
    """Two errors in one text, in the order of points 04.3 and 04.4."""

    def test_reading_comes_before_laying_out(self):
        self.assert_malformed("a:\na:\nnop", 3, 1)
        self.assert_malformed("space 65536 - 1 +", 1, 7)
        self.assert_malformed("equ a, b\nset r1", 2, 7)
        self.assert_malformed("word x\n word", 2, 6)

    def test_laying_out_comes_before_the_words(self):
        self.assert_named(Twice, "call 16\nword x\na:\na:", "a", 4, 1)
        self.assert_named(Unknown, "word x\nequ a, y", "y", 2, 8)
        self.assert_out_of_range("word x\nspace -1", 2, 7)
        self.assert_too_large("word x\nspace 65535 + 1")

    def test_laying_out_goes_line_by_line(self):
        self.assert_named(Twice, "a:\na:\nequ b, x", "a", 2, 1)
        self.assert_named(Unknown, "a:\nequ b, x\na:", "x", 2, 8)
        self.assert_too_large("space 65535\nspace 2\na:\na:")
        self.assert_named(Twice, "a:\na: space 65535 + 1\nword 1", "a", 2, 1)
        self.assert_out_of_range("space -1\nspace 65535\nspace 65535", 1, 7)

    def test_within_a_line(self):
        self.assert_named(Twice, "a:\na: equ b, x", "a", 2, 1)
        self.assert_named(Unknown, "a:\nequ a, x", "x", 2, 8)
        self.assert_out_of_range("a:\nequ a, 65535 + 1", 2, 8)
        self.assert_named(Twice, "a:\na: space x", "a", 2, 1)
        self.assert_named(Unknown, "equ a, 65535 + 65535 + x", "x", 1, 24)
        self.assert_named(Unknown, "word x + y", "x", 1, 6)
        self.assert_named(Unknown, "word 1, 2 - y, x", "y", 1, 13)
        self.assert_out_of_range("word 1, -32769, x", 1, 9)
        self.assert_named(Unknown, "word 1, x, -32769", "x", 1, 9)

    def test_the_words_of_the_lines_in_their_order(self):
        self.assert_out_of_range("call 16\nword x", 1, 6)
        self.assert_named(Unknown, "word x\ncall 16", "x", 1, 6)
        self.assert_out_of_range("halt\nb: shl r1, r2, 8 + 8\naddi r1, r1, 9", 2, 16)

    def test_the_column_at_which_an_expression_begins(self):
        self.assert_out_of_range("  call   -  1", 1, 10)
        self.assert_out_of_range("  call   9 + 9", 1, 10)
        self.assert_out_of_range("word 1,x+x\nequ x, 65535", 1, 8)
        self.assert_named(Unknown, "word -x", "x", 1, 7)
        self.assert_named(Unknown, "word 5 +  x", "x", 1, 11)

    def test_behind_the_address_65536(self):
        self.assert_names("halt\na:", {"a": 65536}, 65535)
        text = "space 65535 + 1\na: equ b, 3\nc: space 0\nd: page"
        self.assert_names(text, {"a": 65536, "b": 3, "c": 65536, "d": 65536})
        self.assert_too_large("halt\na: halt", 65535)
        self.assert_too_large("set r1, 5", 65535)
        self.assert_words("set r1, 5", [encode("set", 1, 0, 0), 5], 65534)
        self.assert_too_large("space 65535\nword 1, 2")
        self.assert_words("space 65534\nword 1, 2", [0] * 65534 + [1, 2])
        self.assert_too_large("space 65535 + 1", 1)
        self.assert_words("space 65535", [0] * 65535, 1)
        self.assert_words("page", [0], 65535)
        self.assert_too_large("page\nhalt", 65535)
        self.assert_too_large("word 1\nword 1, 2, 3", 65534)

    def test_a_label_at_65536_is_no_word(self):
        self.assert_out_of_range("set r1, a\na:", 1, 9, 65534)
        self.assert_words("set r1, a - 1\na:", [encode("set", 1, 0, 0), 65535], 65534)
        self.assert_out_of_range("halt\na: equ b, a", 2, 11, 65535)
        self.assert_names("halt\na: equ b, a - 1", {"a": 65536, "b": 65535}, 65535)

    def test_bases(self):
        for base in (0, 1, 15, 16, 65535):
            self.assert_names("a: halt\nb:", {"a": base, "b": base + 1}, base)
            self.assert_words("a: word a", [base], base)
        self.assertEqual(assemble("a: word a").words, [0])
        self.assertEqual(assemble("a: word a", base=7).words, [7])

    def test_kernel_ops_are_assembled_too(self):
        self.assertEqual([assemble(op).words for op in ("until", "rest")], [[24576], [25600]])
        self.assertEqual(len(KERNEL_ONLY), 6)


if __name__ == "__main__":
    unittest.main()
