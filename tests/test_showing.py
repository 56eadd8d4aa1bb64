"""merestone.showing: programs as texts."""

import unittest

from merestone.showing import print_source
from merestone.sources import Source, parse_source
from programs import some_source

X, ONE = ("name", "x"), ("number", 1)


class ShowingTest(unittest.TestCase):
    def assert_lines(self, source, *lines):
        self.assertEqual(print_source(source), "".join(line + "\n" for line in lines))

    def assert_statement(self, statement, *lines):
        self.assert_lines(Source([], [statement]), *lines)

    def assert_expression(self, expression, text):
        self.assert_statement(("set", "x", expression), "x := " + text)

    def test_nothing(self):
        self.assertEqual(print_source(Source([], [])), "")

    def test_declarations(self):
        names = [("var", "x", 0), ("var", "y", 65535), ("table", "t", 4, ()), ("table", "u", 4, (1, 0, 3)),
                 ("table", "w", 1, (7,)), ("page", "p", 16, 8)]
        self.assert_lines(Source(names, []), "var x = 0", "var y = 65535", "table t 4", "table u 4 = 1, 0, 3",
                          "table w 1 = 7", "page p 16 8")

    def test_statements(self):
        self.assert_statement(("set", "x", ONE), "x := 1")
        self.assert_statement(("put", "t", X, ONE), "t[x] := 1")
        self.assert_statement(("send", 3, X, ""), "send 3, x")
        self.assert_statement(("send", 0, X, "y"), "send 0, x into y")
        self.assert_statement(("receive", 12, "x", "y"), "receive 12 into x, y")
        self.assert_statement(("frame", "x"), "frame into x")
        self.assert_statement(("rest",), "rest")
        self.assert_statement(("stop",), "stop")

    def test_blocks(self):
        self.assert_statement(("if", X, [], []), "if x {", "}")
        self.assert_statement(("if", X, [("rest",)], []), "if x {", "  rest", "}")
        self.assert_statement(("if", X, [("rest",)], [("stop",)]), "if x {", "  rest", "} else {", "  stop", "}")
        self.assert_statement(("if", X, [], [("stop",)]), "if x {", "} else {", "  stop", "}")
        self.assert_statement(("while", X, []), "while x {", "}")
        inner = ("while", ONE, [("rest",), ("if", X, [("stop",)], [])])
        self.assert_statement(("if", X, [inner], [inner]), "if x {", "  while 1 {", "    rest", "    if x {",
                              "      stop", "    }", "  }", "} else {", "  while 1 {", "    rest", "    if x {",
                              "      stop", "    }", "  }", "}")

    def test_expressions(self):
        self.assert_expression(X, "x")
        self.assert_expression(("number", 65535), "65535")
        self.assert_expression(("item", "t", ("item", "p", X)), "t[p[x]]")
        self.assert_expression(("not", X), "~x")
        self.assert_expression(("not", ("not", X)), "~~x")
        for sign in ("==", "!=", "<", "+", "-", "|", "^", "*", "&"):
            self.assert_expression(("op", sign, X, ONE), f"(x {sign} 1)")
            self.assert_expression(("op", sign, ("op", sign, X, ONE), X), f"((x {sign} 1) {sign} x)")
            self.assert_expression(("op", sign, X, ("op", sign, X, ONE)), f"(x {sign} (x {sign} 1))")
        for sign in ("<<", ">>"):
            self.assert_expression(("shift", sign, X, 15), f"(x {sign} 15)")
            self.assert_expression(("shift", sign, ("shift", "<<", X, 0), 15), f"((x << 0) {sign} 15)")
        self.assert_expression(("not", ("op", "+", X, ONE)), "~(x + 1)")
        self.assert_expression(("item", "t", ("op", "+", X, ONE)), "t[(x + 1)]")
        self.assert_expression(("op", "*", ("not", X), ("item", "t", X)), "(~x * t[x])")

    def test_in_every_place(self):
        e = ("op", "<", X, ONE)
        self.assert_statement(("put", "t", e, e), "t[(x < 1)] := (x < 1)")
        self.assert_statement(("if", e, [], []), "if (x < 1) {", "}")
        self.assert_statement(("while", e, []), "while (x < 1) {", "}")
        self.assert_statement(("send", 1, e, ""), "send 1, (x < 1)")

    def test_a_whole_program(self):
        text = ("var n = 2 var ok table t 4 = 1,2 while n < 5 { send 0, n * n into ok n := n + ok t[n<<1&3] := ~t[0] }"
                " if ok { rest } else { receive 1 into ok, n }")
        source = parse_source(text)
        self.assert_lines(source, "var n = 2", "var ok = 0", "table t 4 = 1, 2", "while (n < 5) {",
                          "  send 0, (n * n) into ok", "  n := (n + ok)", "  t[((n << 1) & 3)] := ~t[0]", "}",
                          "if ok {", "  rest", "} else {", "  receive 1 into ok, n", "}")

    def test_it_is_read_as_an_equal_program(self):
        for number in range(300, 600):
            source = some_source(number, 64)
            self.assertEqual(parse_source(print_source(source)), source)

    def test_programs_that_are_nested_less_deep_than_20(self):
        names = [("var", "x", 0), ("table", "t", 4, ())]
        for wrap in (lambda e: ("op", "+", e, ONE), lambda e: ("op", "+", ONE, e), lambda e: ("not", e),
                     lambda e: ("item", "t", e), lambda e: ("shift", "<<", e, 1), lambda e: ("op", "<", e, e)):
            expression = X
            for _ in range(9 if wrap(X) == ("op", "<", X, X) else 19):
                expression = wrap(expression)
            source = Source(names, [("set", "x", expression)])
            self.assertEqual(parse_source(print_source(source)), source)
        for wrap in (lambda s: ("while", X, [s]), lambda s: ("if", X, [s], []), lambda s: ("if", X, [], [s])):
            statement = ("rest",)
            for _ in range(19):
                statement = wrap(statement)
            source = Source(names, [statement])
            self.assertEqual(parse_source(print_source(source)), source)

    def test_a_long_sum(self):
        source = parse_source("var x x := x" + " + 1" * 3000)
        self.assertEqual(print_source(source), "var x = 0\nx := " + "(" * 3000 + "x" + " + 1)" * 3000 + "\n")

    def test_the_source_stays(self):
        source = parse_source("var x table t 2 = 1 if x { rest } else { t[x] := 1 }")
        print_source(source)
        self.assertEqual(source, parse_source("var x table t 2 = 1 if x { rest } else { t[x] := 1 }"))


if __name__ == "__main__":
    unittest.main()
