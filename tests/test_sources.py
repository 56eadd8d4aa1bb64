"""merestone.sources: points 13.1 to 13.5."""

import random
import unittest

from merestone.errors import Malformed, TooLarge
from merestone.showing import print_source
from merestone.sources import Source, parse_source
from programs import some_source

KEYWORDS = ("var", "table", "page", "if", "else", "while", "send", "receive", "frame", "into", "rest", "stop")

X, Y, ONE = ("name", "x"), ("name", "y"), ("number", 1)
NAMES = "var x var y table t 4 page p 32 8 "


def op(sign, first, second):
    return ("op", sign, first, second)


class ParsingTest(unittest.TestCase):
    def names(self, text):
        return parse_source(text).names

    def body(self, text):
        return parse_source(NAMES + text).body

    def expression(self, text):
        (statement,) = self.body("x := " + text)
        self.assertEqual(statement[:2], ("set", "x"))
        return statement[2]

    def assert_malformed(self, text, line, column):
        with self.assertRaises(Malformed) as caught:
            parse_source(text)
        self.assertEqual((caught.exception.line, caught.exception.column), (line, column), text)

    def assert_wrong(self, before, wrong):
        """The first word of a text that does not fit stands behind some words."""
        self.assert_malformed(before + wrong, 1, len(before) + 1)

    def assert_too_large(self, limit, text):
        with self.assertRaises(TooLarge) as caught:
            parse_source(text)
        self.assertEqual(caught.exception.limit, limit)


class SourceTest(unittest.TestCase):
    def test_attributes(self):
        source = Source([("var", "x", 1)], [("rest",)])
        self.assertEqual((source.names, source.body), ([("var", "x", 1)], [("rest",)]))

    def test_equal(self):
        first, second = Source([("var", "x", 1)], [("rest",)]), Source([("var", "x", 1)], [("rest",)])
        self.assertEqual(first, second)
        self.assertFalse(first != second)
        for other in (Source([("var", "x", 2)], [("rest",)]), Source([("var", "x", 1)], [("stop",)]),
                      Source([("var", "x", 1)], []), Source([], [("rest",)]),
                      Source([("var", "x", 1)], [("rest",), ("rest",)]), ([("var", "x", 1)], [("rest",)]), None):
            self.assertNotEqual(first, other)
        one = [("if", X, [("rest",)], [])]
        self.assertNotEqual(Source([], one), Source([], [("if", X, [], [("rest",)])]))
        self.assertNotEqual(Source([], one), Source([], [("if", X, (("rest",),), [])]))
        self.assertNotEqual(Source([], one), Source([], [("while", X, [("rest",)])]))

    def test_long_programs(self):
        text = "var x x := x" + " + x" * 5000 + " << 1" * 5000
        self.assertEqual(parse_source(text), parse_source(text))
        self.assertNotEqual(parse_source(text), parse_source(text.replace("x := x +", "x := 1 +")))
        self.assertEqual(len(parse_source("rest " * 5000).body), 5000)


class DeclarationsTest(ParsingTest):
    def test_nothing(self):
        for text in ("", " ", "\n\n", "# var", "  # x\n"):
            self.assertEqual(parse_source(text), Source([], []))

    def test_variables(self):
        self.assertEqual(self.names("var x"), [("var", "x", 0)])
        self.assertEqual(self.names("var x = 7 var y var z_1 = 65535"),
                         [("var", "x", 7), ("var", "y", 0), ("var", "z_1", 65535)])

    def test_tables(self):
        self.assertEqual(self.names("table t 4"), [("table", "t", 4, ())])
        self.assertEqual(self.names("table t 4 = 1"), [("table", "t", 4, (1,))])
        self.assertEqual(self.names("table t 4 = 1, 2,3 ,4"), [("table", "t", 4, (1, 2, 3, 4))])
        for size in (1, 2, 4, 8, 16, 32, 64):
            words = tuple(range(100, 100 + size))
            text = ", ".join(str(word) for word in words)
            self.assertEqual(self.names(f"table t {size} = {text}"), [("table", "t", size, words)])

    def test_pages(self):
        self.assertEqual(self.names("page p 0 1 page q 127 1 page r 112 16"),
                         [("page", "p", 0, 1), ("page", "q", 127, 1), ("page", "r", 112, 16)])
        for size in (1, 2, 4, 8, 16):
            self.assertEqual(self.names(f"page p {128 - size} {size}"), [("page", "p", 128 - size, size)])
            if size > 1:
                self.assert_wrong(f"page p {129 - size} ", str(size))

    def test_sizes(self):
        for size in (0, 3, 5, 7, 12, 63, 65, 128, 65535):
            self.assert_wrong("table t ", f"{size}")
            self.assert_wrong("page p 0 ", f"{size}")
        for size in (32, 64):
            self.assert_wrong("page p 0 ", f"{size}")

    def test_addresses(self):
        for address in (128, 129, 65535):
            self.assert_wrong("page p ", f"{address} 1")
        self.assert_wrong("page p 127 ", "2")
        self.assert_wrong("page p 113 ", "16")
        self.assert_wrong("page p ", "= 1 1")

    def test_first_words(self):
        for size in (1, 2, 4, 64):
            words = ", ".join(["7"] * size)
            self.assertEqual(len(self.names(f"table t {size} = {words}")[0][3]), size)
            self.assert_wrong(f"table t {size} = {words} ", ", 7")
        self.assert_wrong("table t 4 = 1, ", "x")
        self.assert_wrong("table t 4 = 1, ", ", 2")
        self.assert_wrong("table t 4 ", ", 1")
        self.assert_wrong("table t 4 = ", "")
        self.assert_wrong("var x = 1 ", ", 2")
        self.assert_wrong("page p 0 4 ", "= 1")

    def test_names(self):
        for name in ("a", "Z", "a_", "a1", "abcdefghijklmnop", "IF", "Var", "iff", "var1", "r0", "A_9_z"):
            self.assertEqual(self.names(f"var {name}"), [("var", name, 0)])
        for name in ("abcdefghijklmnopq", "_a", "_", "1a", "1_", "a" * 1000):
            self.assert_wrong("var ", name)
        for word in KEYWORDS + ("7", "=", ":=", "("):
            for kind in ("var", "table", "page"):
                self.assert_wrong(f"{kind} ", f"{word} 1 1")

    def test_declared_twice(self):
        for first in ("var x", "table x 4", "page x 0 4"):
            for second in ("var ", "table ", "page "):
                self.assert_wrong(f"{first} var y {second}", "x 4 4")

    def test_declarations_stand_ahead_of_statements(self):
        for kind in ("var x", "table t 2", "page p 0 2"):
            self.assert_wrong("rest ", kind)
            self.assert_wrong("while 1 { ", kind + " }")

    def test_64_and_65_names(self):
        text = " ".join(f"var a{k}" for k in range(64))
        self.assertEqual(len(self.names(text)), 64)
        for kind in ("var", "table", "page"):
            self.assert_too_large("names", f"{text} {kind} b")
            # It is raised behind the name, whatever comes then.
            self.assert_too_large("names", f"{text} {kind} b ) ) )")
            self.assert_wrong(f"{text} {kind} ", "a63 4 4")
            self.assert_wrong(f"{text} {kind} ", "if")
        mixed = " ".join(f"table a{k} 1 page b{k} 0 1" for k in range(32))
        self.assertEqual(len(self.names(mixed)), 64)
        self.assert_too_large("names", mixed + " var x")
        self.assert_malformed(text + " var b $", 1, len(text) + 8)


class StatementsTest(ParsingTest):
    def test_assignments(self):
        self.assertEqual(self.body("x := 1"), [("set", "x", ONE)])
        self.assertEqual(self.body("t[x] := y"), [("put", "t", X, Y)])
        self.assertEqual(self.body("p [ 1 ] := t[x]"), [("put", "p", ONE, ("item", "t", X))])
        self.assertEqual(self.body("x := 1 y := x t[1]:=x"), [("set", "x", ONE), ("set", "y", X), ("put", "t", ONE, X)])

    def test_if_and_while(self):
        self.assertEqual(self.body("if x {}"), [("if", X, [], [])])
        self.assertEqual(self.body("if x {rest} else {}"), [("if", X, [("rest",)], [])])
        self.assertEqual(self.body("if x { } else { stop rest }"), [("if", X, [], [("stop",), ("rest",)])])
        self.assertEqual(self.body("while x < 1 { x := y }"), [("while", op("<", X, ONE), [("set", "x", Y)])])
        self.assertEqual(self.body("if x { if y { } else { rest } } else { while 1 { } }"),
                         [("if", X, [("if", Y, [], [("rest",)])], [("while", ONE, [])])])
        self.assertEqual(self.body("if x {} rest if y {}"), [("if", X, [], []), ("rest",), ("if", Y, [], [])])

    def test_calls(self):
        self.assertEqual(self.body("send 0, x"), [("send", 0, X, "")])
        self.assertEqual(self.body("send 65535, x + 1 into y"), [("send", 65535, op("+", X, ONE), "y")])
        self.assertEqual(self.body("receive 3 into x, y receive 65535 into x , x"),
                         [("receive", 3, "x", "y"), ("receive", 65535, "x", "x")])
        self.assertEqual(self.body("frame into x rest stop"), [("frame", "x"), ("rest",), ("stop",)])

    def test_what_does_not_fit(self):
        wrong = [
            ("x ", "= 1"), ("x ", "[1] := 2"), ("x ", "x := 1"), ("t ", ":= 1"), ("t[1 ", ":= 2"), ("t[1] ", "= 2"),
            ("t[1] ", "[2] := 1"), ("p ", ":= 1"), ("", "z := 1"), ("", "z[1] := 1"), ("", "7"), ("", "else { }"),
            ("", "}"), ("", "into x"), ("", "( x )"), ("", ":= 1"), ("", ","), ("x := ", ":= 1"), ("x := 1 ", "2"),
            ("x := 1 ", ", 2"), ("x := 1 ", ")"), ("x := (1 ", "]"), ("x := t[1 ", ")"), ("x := ( ", ")"),
            ("x := t[ ", "]"), ("x := ", "z"), ("x := 1 + ", "z"), ("x := t[", "z]"), ("x := ", "if"),
            ("if ", "{ }"), ("if x ", "rest"), ("if x { rest ", ") }"), ("if x { } else ", "rest"),
            ("if x { } else ", "if x { }"), ("if x { } else { } ", "else { }"), ("while x { } ", "else { }"),
            ("while x ", "( )"), ("while ", "{ }"), ("send ", "x, 1"), ("send 1 ", "1"), ("send 1, ", "into x"),
            ("send 1, x into ", "1"), ("send 1, x into ", "z"), ("send 1, x into ", "t"), ("send 1, x into ", "p"),
            ("send 1, x into ", "stop"), ("send 1, x ", ", y"), ("send 1, x into y ", ", y"),
            ("receive ", "x into x, y"), ("receive 1 ", ", x"), ("receive 1 into ", "t, x"),
            ("receive 1 into ", "p, x"), ("receive 1 into ", "z, x"),
            ("receive 1 into x, ", "t"), ("receive 1 into x, ", "p"), ("receive 1 into x, ", "z"),
            ("receive 1 into x ", "y"), ("receive 1 into x", ":= y"), ("receive 1 into ", ", y"), ("frame ", "x"),
            ("frame into ", "t"), ("frame into ", "z"), ("frame into ", "7"), ("frame into x ", ", y"),
            ("rest ", "1"), ("stop ", "into x"), ("x := t ", "+ 1"), ("x := t ", "y := 1"), ("x := y ", "[1]"),
            ("x := p ", "<< 1"), ("send 1, t ", "into x"), ("x := 1 y ", "x"),
        ]
        for before, behind in wrong:
            self.assert_wrong(NAMES + before, behind)

    def test_the_end_of_the_text(self):
        for text in ("var", "var x =", "table", "table u", "table u 4 =", "table u 4 = 1,", "page", "page q",
                     "page q 0", "x", "x :=", "t", "t[", "t[1", "t[1]", "t[1] :=", "if", "if x", "if x {",
                     "if x { } else", "if x { } else {", "while", "while x {", "send", "send 1", "send 1,",
                     "send 1, x into", "receive", "receive 1", "receive 1 into", "receive 1 into x",
                     "receive 1 into x,", "frame", "frame into", "x := 1 +", "x := (", "x := (1", "x := ~", "x := 1 <<",
                     "x := 1 <", "x := t", "x := t[1"):
            whole = (NAMES if text.split()[0] not in ("var", "table", "page") else "") + text
            self.assert_malformed(whole, 1, len(whole) + 1)
            self.assert_malformed(whole + "  ", 1, len(whole) + 3)
            self.assert_malformed(whole + " # a", 1, len(whole) + 5)
            self.assert_malformed(whole + "\n", 2, 1)
            self.assert_malformed(whole + "\n\n  ", 3, 3)

    def test_statements_are_separated_by_nothing(self):
        self.assertEqual(self.body("x:=1 y:=2"), [("set", "x", ONE), ("set", "y", ("number", 2))])
        self.assertEqual(self.body("if(x){rest}else{stop}"), [("if", X, [("rest",)], [("stop",)])])
        self.assertEqual(self.body("t[x]:=t[y]x:=(y)y:=x"), self.body("t[x] := t[y]\nx := y\ny := x"))


class ExpressionsTest(ParsingTest):
    def test_factors(self):
        self.assertEqual(self.expression("0"), ("number", 0))
        self.assertEqual(self.expression("65535"), ("number", 65535))
        self.assertEqual(self.expression("x"), X)
        self.assertEqual(self.expression("t[p[x]]"), ("item", "t", ("item", "p", X)))
        self.assertEqual(self.expression("~x"), ("not", X))
        self.assertEqual(self.expression("~~ ~1"), ("not", ("not", ("not", ONE))))
        self.assertEqual(self.expression("((x))"), X)

    def test_every_sign(self):
        for sign in ("==", "!=", "<", "+", "-", "|", "^", "*", "&"):
            self.assertEqual(self.expression(f"x {sign} y"), op(sign, X, Y))
            self.assertEqual(self.expression(f"(x{sign}y)"), op(sign, X, Y))
        for sign in ("<<", ">>"):
            self.assertEqual(self.expression(f"x {sign} 3"), ("shift", sign, X, 3))

    def test_from_the_left_to_the_right(self):
        for first in ("+", "-", "|", "^"):
            for second in ("+", "-", "|", "^"):
                self.assertEqual(self.expression(f"x {first} y {second} 1"), op(second, op(first, X, Y), ONE))
        for first in ("*", "&"):
            for second in ("*", "&"):
                self.assertEqual(self.expression(f"x {first} y {second} 1"), op(second, op(first, X, Y), ONE))
            self.assertEqual(self.expression(f"x {first} y >> 2 << 3"),
                             ("shift", "<<", ("shift", ">>", op(first, X, Y), 2), 3))
            self.assertEqual(self.expression(f"x << 2 {first} y"), op(first, ("shift", "<<", X, 2), Y))

    def test_what_binds_more(self):
        for low in ("+", "-", "|", "^"):
            for high in ("*", "&"):
                self.assertEqual(self.expression(f"x {low} y {high} 1"), op(low, X, op(high, Y, ONE)))
                self.assertEqual(self.expression(f"x {high} y {low} 1"), op(low, op(high, X, Y), ONE))
                self.assertEqual(self.expression(f"(x {low} y) {high} 1"), op(high, op(low, X, Y), ONE))
            self.assertEqual(self.expression(f"x {low} y << 1"), op(low, X, ("shift", "<<", Y, 1)))
            for comparison in ("==", "!=", "<"):
                self.assertEqual(self.expression(f"x {low} y {comparison} y {low} 1"),
                                 op(comparison, op(low, X, Y), op(low, Y, ONE)))
        self.assertEqual(self.expression("~x + y"), op("+", ("not", X), Y))
        self.assertEqual(self.expression("~x << 2"), ("shift", "<<", ("not", X), 2))
        self.assertEqual(self.expression("~(x + y)"), ("not", op("+", X, Y)))
        self.assertEqual(self.expression("x * ~y"), op("*", X, ("not", Y)))

    def test_comparisons_are_not_chained(self):
        for first in ("==", "!=", "<"):
            for second in ("==", "!=", "<"):
                self.assert_wrong(NAMES + f"x := x {first} y ", f"{second} 1")
                self.assertEqual(self.expression(f"(x {first} y) {second} 1"), op(second, op(first, X, Y), ONE))
                self.assertEqual(self.expression(f"x {first} (y {second} 1)"), op(first, X, op(second, Y, ONE)))

    def test_shifts(self):
        for number in range(16):
            self.assertEqual(self.expression(f"x << {number}"), ("shift", "<<", X, number))
        for wrong in ("16", "65535", "x", "(1)", "~1", "t[1]"):
            self.assert_wrong(NAMES + "x := x << ", wrong)
            self.assert_wrong(NAMES + "x := x >> ", wrong)

    def test_superfluous_parentheses(self):
        for text in ("x + y * 1", "x < y", "t[x + 1] << 2", "~x & y"):
            self.assertEqual(self.expression(f"(({text}))"), self.expression(text))
        self.assertEqual(self.expression("((x) + ((y) * (1)))"), self.expression("x + y * 1"))
        self.assertEqual(self.expression("t[(x)]"), self.expression("t[x]"))

    def test_there_is_no_sign_ahead(self):
        for sign in ("+", "-", "*", "&", "|", "^", "<", "==", "!=", "<<"):
            self.assert_wrong(NAMES + "x := ", f"{sign} 1")
            self.assert_wrong(NAMES + "x := 1 + ", f"{sign} 1")


class WordsTest(ParsingTest):
    def test_numbers(self):
        for number in (0, 1, 9, 10, 65535):
            self.assertEqual(self.expression(str(number)), ("number", number))
        for number in ("00", "01", "007", "65536", "99999", "100000", "9" * 5000, "1x", "0x1", "1_000", "7a7"):
            self.assert_wrong(NAMES + "x := ", number)
            self.assert_wrong(NAMES + "x := 1 + ", number + " + 2")

    def test_characters_that_begin_no_word(self):
        for wrong in "!\"$%'./;?@\\`:>":
            self.assert_wrong(NAMES + "x := 1 ", wrong)
            self.assert_wrong(NAMES + "x := 1 ", wrong + " rest")
            self.assert_wrong("", wrong)

    def test_two_characters_are_taken_first(self):
        for text, column in (("x := 1 : = 2", 8), ("x := 1 ! = 2", 8), ("x := 1 > > 2", 8), ("x := 1 >>> 2", 10),
                             ("x := 1 !== 2", 10), ("x :== 1", 5), ("x ::= 1", 3), ("x := 1 === 2", 10),
                             ("x := 1 <<< 2", 10), ("x := 1 < < 2", 10), ("x := 1 = = 2", 8), ("x := 1 <<<< 2", 10),
                             ("x := 1 <= 2", 9), ("x := 1 >= 2", 8)):
            self.assert_malformed("var x\n" + text, 2, column)
        self.assertEqual(self.expression("x<y"), op("<", X, Y))
        self.assertEqual(self.expression("x<<1<y"), op("<", ("shift", "<<", X, 1), Y))
        self.assertEqual(self.expression("x==y"), op("==", X, Y))
        self.assertEqual(self.expression("x<~y"), op("<", X, ("not", Y)))

    def test_letters_digits_and_lines_stand_together(self):
        self.assert_malformed("var x x := 1rest", 1, 12)
        self.assert_malformed("varx", 1, 1)
        self.assert_malformed("var x x := xrest", 1, 12)
        self.assert_malformed("var x x := 1 restrest", 1, 14)
        self.assert_malformed("var x x := 1_", 1, 12)
        self.assert_malformed("var x x := x_", 1, 12)

    def test_comments_spaces_and_line_feeds(self):
        text = "# a $ comment\nvar x#b\n\n  = 7 # = 8\ntable  t\n4 # #\nx\n:=\nt [ x ]   # end"
        self.assertEqual(parse_source(text), parse_source("var x=7 table t 4 x:=t[x]"))
        self.assertEqual(parse_source("rest#\nrest"), parse_source("rest rest"))
        self.assertEqual(parse_source("rest # rest"), parse_source("rest"))
        self.assert_malformed("var# \nif", 2, 1)
        self.assert_malformed("rest\n  rest # $\n   $", 3, 4)

    def test_signs_are_not_parted(self):
        self.assert_malformed("var x x :\n= 1", 1, 9)
        self.assert_malformed("var x x := 1 =\n= 1", 1, 14)

    def test_lines_and_columns(self):
        self.assert_malformed("var x\nvar y\n  x := y z", 3, 10)
        self.assert_malformed("\n\n\nrest )", 4, 6)
        self.assert_malformed("var x\nx := 65536", 2, 6)

    def test_the_text_is_split_into_words_first(self):
        self.assert_malformed("var var\n\n $", 3, 2)
        self.assert_malformed("z := 1\n00", 2, 1)
        self.assert_malformed("} 65536 $", 1, 3)
        names = " ".join(f"var a{k}" for k in range(70))
        self.assert_malformed(names + "\n$", 2, 1)
        self.assert_malformed("( " * 30 + "\n_x", 2, 1)
        self.assert_too_large("names", names + " z")

    def test_two_errors(self):
        self.assert_malformed("var var x x := )", 1, 5)
        self.assert_malformed("$ %", 1, 1)
        self.assert_malformed("rest ) (", 1, 6)


class DepthTest(ParsingTest):
    def test_each_open_word(self):
        kinds = {
            "(": ("x := ", "(", "x", ")"), "[": ("x := ", "t[", "x", "]"), "{": ("", "if x {", "rest", "}"),
            "while": ("", "while x {", "rest", "}"), "~": ("x := ", "~", "x", ""),
        }
        for before, opened, inner, closed in kinds.values():
            parse_source(NAMES + before + opened * 20 + inner + closed * 20)
            self.assert_too_large("depth", NAMES + before + opened * 21 + inner + closed * 21)
            # It is raised behind the word, whatever comes then; the words before must fit.
            self.assert_too_large("depth", NAMES + before + opened * 21 + " )")
            self.assert_wrong(NAMES + before + opened * 20 + " ", "else" if inner == "x" else ")")
        parse_source(NAMES + "if x { } else {" * 20 + "}" * 20)
        self.assert_too_large("depth", NAMES + "if x { } else {" * 21 + "}" * 21)
        parse_source(NAMES + "t[" * 20 + "x" + "]" * 20 + " := 1")
        self.assert_too_large("depth", NAMES + "t[" * 21 + "x" + "]" * 21 + " := 1")

    def test_they_count_together(self):
        for many in range(22):
            inner = "(" * many + "x" + ")" * many
            whole = (NAMES + "if x { while t[~(x + ~ t[") + inner + "])] { rest } }"
            # Six are open besides.
            if many <= 14:
                parse_source(whole)
            else:
                self.assert_too_large("depth", whole)

    def test_what_is_closed_counts_no_longer(self):
        for text in ("x := (x) + t[x] ", "if x { } else { } ", "while (x) { } ", "x := ~x + ~(y) ", "t[(1)] := ~1 "):
            parse_source(NAMES + text * 60)

    def test_a_tilde_is_open_as_far_as_its_factor(self):
        parse_source(NAMES + "x := " + " + ".join(["~x"] * 50))
        parse_source(NAMES + "x := " + "~" * 19 + "x" + " + (x)" * 5 + " + ~~~~~x")
        parse_source(NAMES + "x := " + "~" * 19 + "(x + y)")
        self.assert_too_large("depth", NAMES + "x := " + "~" * 20 + "(x + y)")
        parse_source(NAMES + "x := " + "~" * 20 + "x * (x)")
        parse_source(NAMES + "x := " + "~" * 20 + "x << 1")
        parse_source(NAMES + "x := t[" + "~" * 19 + "x] + t[1]")
        self.assert_too_large("depth", NAMES + "x := " + "~" * 20 + "t[x]")

    def test_a_word_that_does_not_fit_is_not_counted(self):
        self.assert_wrong(NAMES + "x := " + "(" * 20 + "x ", "( x")
        self.assert_wrong(NAMES + "if x {" * 20 + " ", "{")


class ManyTest(ParsingTest):
    def test_programs_are_read_as_they_are_printed(self):
        for number in range(300):
            source = some_source(number)
            text = print_source(source)
            self.assertEqual(parse_source(text), source)
            self.assertEqual(parse_source(text.replace("\n", " ")), source)
            self.assertEqual(parse_source(text.replace(" ", "  # a\n")), source)

    def test_words_left_out(self):
        # Whatever is left out, the text is read as another program, or an error is raised.
        source = random.Random(5)
        for number in range(150):
            words = print_source(some_source(number)).split()
            del words[source.randrange(len(words))]
            try:
                parse_source(" ".join(words))
            except (Malformed, TooLarge):
                pass


if __name__ == "__main__":
    unittest.main()
