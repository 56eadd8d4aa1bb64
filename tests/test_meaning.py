"""merestone.meaning: points 13.6 and 13.7."""

import unittest

from merestone.meaning import run_source
from merestone.sources import parse_source
from programs import some_source

MOST = 10000


class MeaningTest(unittest.TestCase):
    def run_text(self, text, answers=(), most=MOST):
        return run_source(parse_source(text), list(answers), most)

    def assert_run(self, text, answers, done, how, words, most=MOST):
        self.assertEqual(self.run_text(text, answers, most), (done, how, words), text)

    def word_of(self, expression, names="", answers=()):
        """The word of an expression, and what is done outside."""
        done, how, words = self.run_text(f"var found {names} found := {expression}", answers)
        self.assertEqual(how, "stop")
        return words[0][0]


class ExpressionsTest(MeaningTest):
    def test_signs(self):
        for text, word in (
                ("65535 + 1", 0), ("65535 + 65535", 65534), ("3 - 5", 65534), ("0 - 1", 65535), ("300 * 300", 24464),
                ("65535 * 65535", 1), ("12 & 10", 8), ("12 | 10", 14), ("12 ^ 10", 6), ("65535 & 4660", 4660),
                ("40961 << 1", 16386), ("1 << 15", 32768), ("2 << 15", 0), ("40961 >> 1", 20480), ("65535 >> 15", 1),
                ("7 << 0", 7), ("7 >> 0", 7), ("~0", 65535), ("~65535", 0), ("~1", 65534), ("~~7", 7),
                ("~21845", 43690)):
            self.assertEqual(self.word_of(text), word, text)

    def test_comparisons_take_words_as_integers_from_0_on(self):
        for first in (0, 1, 2, 32767, 32768, 65534, 65535):
            for second in (0, 1, 2, 32767, 32768, 65534, 65535):
                self.assertEqual(self.word_of(f"{first} == {second}"), int(first == second))
                self.assertEqual(self.word_of(f"{first} != {second}"), int(first != second))
                self.assertEqual(self.word_of(f"{first} < {second}"), int(first < second))

    def test_from_the_left_to_the_right(self):
        names = "page p 32 8"
        for text, addresses in (
                ("p[1] + p[2]", [33, 34]), ("p[2] - p[1] * p[3]", [34, 33, 35]), ("p[p[1]] + p[2]", [33, 37, 34]),
                ("(p[1] < p[2]) + ~p[3]", [33, 34, 35]), ("p[1] + p[1]", [33, 33]), ("p[p[p[0]]]", [32, 37, 37]),
                ("p[1] << 3 | p[2] >> 1", [33, 34]), ("0 * p[4]", [36])):
            done, how, _ = self.run_text(f"var found {names} found := {text}", [5] * 9)
            self.assertEqual((done, how), ([("read", address) for address in addresses], "stop"), text)

    def test_first_and_second_part(self):
        self.assertEqual(self.word_of("p[0] - p[0]", "page p 32 1", [10, 3]), 7)
        self.assertEqual(self.word_of("p[0] < p[0]", "page p 32 1", [3, 10]), 1)
        self.assertEqual(self.word_of("p[0] << 4", "page p 32 1", [3]), 48)

    def test_a_long_sum(self):
        self.assertEqual(self.word_of("found" + " + 3" * 5000 + " << 1" * 5000), 14997)
        self.assertEqual(self.word_of("found" + " + 3" * 5000), 15000)


class NamesTest(MeaningTest):
    def test_first_words_in_their_order(self):
        self.assert_run("var x = 5 table t 4 = 1, 2 page p 32 4 var y table u 1 = 9 table w 2", [], [], "stop",
                        [(5,), (1, 2, 0, 0), (0,), (9,), (0, 0)])
        self.assert_run("", [], [], "stop", [])

    def test_indexes_are_taken_modulo_the_size(self):
        for size in (1, 2, 4, 8, 16, 32, 64):
            words = ", ".join(str(100 + k) for k in range(size))
            for index in (0, 1, size - 1, size, size + 1, 1000, 65535):
                self.assertEqual(self.word_of(f"t[{index}]", f"table t {size} = {words}"), 100 + index % size)
                self.assertEqual(self.word_of(f"t[i + {index}]", f"var i table t {size} = {words}"), 100 + index % size)
                _, _, found = self.run_text(f"table t {size} t[{index}] := 7")
                self.assertEqual(found, [tuple(7 if k == index % size else 0 for k in range(size))])
        for size in (1, 2, 4, 8, 16):
            for index in (0, 1, size - 1, size, 1000, 65535):
                done, _, _ = self.run_text(f"var x page p 48 {size} x := p[{index}] p[{index}] := x + 1", [5])
                self.assertEqual(done, [("read", 48 + index % size), ("write", 48 + index % size, 6)])

    def test_assignments(self):
        self.assert_run("var x = 1 var y = 2 x := y y := x + 1 x := x * 10", [], [], "stop", [(20,), (3,)])
        self.assert_run("table t 4 = 1 t[1] := t[0] + 4 t[t[0]] := t[1] + 1 t[4] := 9", [], [], "stop", [(9, 6, 0, 0)])

    def test_an_index_is_worked_out_before_the_value(self):
        self.assert_run("table t 4 page p 32 8 t[p[1]] := p[2]", [3, 9], [("read", 33), ("read", 34)], "stop",
                        [(0, 0, 0, 9)])
        self.assert_run("page p 32 8 p[p[1]] := p[2]", [3, 9], [("read", 33), ("read", 34), ("write", 35, 9)], "stop",
                        [])

    def test_writes_and_reads_in_their_order(self):
        self.assert_run("var x page p 32 2 p[0] := 1 x := p[1] p[1] := x p[0] := p[0]", [7, 8],
                        [("write", 32, 1), ("read", 33), ("write", 33, 7), ("read", 32), ("write", 32, 8)], "stop",
                        [(7,)])

    def test_pages_have_no_words_of_their_own(self):
        self.assert_run("var x page p 32 2 p[0] := 1 x := p[0]", [7], [("write", 32, 1), ("read", 32)], "stop", [(7,)])


class StatementsTest(MeaningTest):
    def test_send(self):
        self.assert_run("var x = 3 var ok = 9 send 4, x + 1 into ok", [1], [("send", 4, 4)], "stop", [(3,), (1,)])
        self.assert_run("var x = 3 var ok = 9 send 4, x + 1 into ok", [0], [("send", 4, 4)], "stop", [(3,), (0,)])
        self.assert_run("var x = 3 send 4, x into x", [1], [("send", 4, 3)], "stop", [(1,)])
        # Also without a name it is answered.
        self.assert_run("var ok send 4, 1 send 5, 2 into ok", [1, 0], [("send", 4, 1), ("send", 5, 2)], "stop", [(0,)])

    def test_receive(self):
        self.assert_run("var a = 5 var b = 6 receive 2 into a, b", [77], [("receive", 2)], "stop", [(1,), (77,)])
        self.assert_run("var a = 5 var b = 6 receive 2 into a, b", [0], [("receive", 2)], "stop", [(1,), (0,)])
        self.assert_run("var a = 5 var b = 6 receive 2 into a, b", [None], [("receive", 2)], "stop", [(0,), (6,)])
        self.assert_run("var a = 5 receive 2 into a, a", [77], [("receive", 2)], "stop", [(77,)])
        self.assert_run("var a = 5 receive 2 into a, a", [0], [("receive", 2)], "stop", [(0,)])
        self.assert_run("var a = 5 receive 2 into a, a", [None], [("receive", 2)], "stop", [(0,)])

    def test_frame_and_rest(self):
        self.assert_run("var a rest frame into a rest", [9], [("rest",), ("frame",), ("rest",)], "stop", [(9,)])

    def test_if(self):
        for word, done in ((0, [("send", 2, 0)]), (1, [("send", 1, 0)]), (65535, [("send", 1, 0)])):
            self.assert_run(f"var x = {word} if x {{ send 1, 0 }} else {{ send 2, 0 }}", [1], done, "stop", [(word,)])
        self.assert_run("if 0 { rest }", [], [], "stop", [])
        self.assert_run("if 2 { } else { rest }", [], [], "stop", [])

    def test_while(self):
        self.assert_run("var x while x < 3 { x := x + 1 rest }", [], [("rest",)] * 3, "stop", [(3,)])
        self.assert_run("while 0 { rest }", [], [], "stop", [])
        self.assert_run("page p 32 1 while p[0] { }", [1, 2, 0], [("read", 32)] * 3, "stop", [])
        self.assert_run("var x var y while x < 3 { y := 0 while y < 2 { y := y + 1 rest } x := x + 1 }", [],
                        [("rest",)] * 6, "stop", [(3,), (2,)])

    def test_stop(self):
        self.assert_run("rest stop rest", [], [("rest",)], "stop", [])
        self.assert_run("var x while 1 { x := x + 1 if x == 3 { while 1 { stop } } rest } rest", [],
                        [("rest",)] * 2, "stop", [(3,)])

    def test_example(self):
        source = parse_source("var n = 2 var ok while n < 5 { send 0, n * n into ok n := n + ok }")
        self.assertEqual(run_source(source, [1, 0, 1, 1], 100), (
            [("send", 0, 4), ("send", 0, 9), ("send", 0, 9), ("send", 0, 16)], "stop", [(5,), (1,)]))


class WaitingTest(MeaningTest):
    def test_at_each_kind_of_question(self):
        for text, question in (("x := p[3]", ("read", 35)), ("send 1, x", ("send", 1, 5)),
                               ("send 1, x into x", ("send", 1, 5)), ("receive 2 into x, y", ("receive", 2)),
                               ("frame into x", ("frame",)), ("p[p[1]] := 3", ("read", 33)),
                               ("t[1] := p[1]", ("read", 33)), ("t[p[1]] := 9", ("read", 33)),
                               ("if p[1] { x := 9 } else { x := 8 }", ("read", 33)),
                               ("while p[1] { x := 9 }", ("read", 33)),
                               ("send 1, p[2] into x", ("read", 34))):
            names = "var x = 5 var y = 6 table t 2 = 7, 8 page p 32 8 "
            words = [(5,), (6,), (7, 8)]
            self.assert_run(names + text + " x := 77 rest", [], [question], "waiting", words)
            self.assert_run(names + "frame into y rest " + text, [1], [("frame",), ("rest",), question], "waiting",
                            [(5,), (1,), (7, 8)])

    def test_in_the_midst_of_an_expression(self):
        self.assert_run("var x = 1 page p 32 8 x := p[1] + p[2]", [5], [("read", 33), ("read", 34)], "waiting", [(1,)])
        self.assert_run("page p 32 8 p[p[1]] := p[2]", [5], [("read", 33), ("read", 34)], "waiting", [])

    def test_rests_and_writes_are_not_answered(self):
        self.assert_run("page p 32 8 rest p[1] := 7 rest", [], [("rest",), ("write", 33, 7), ("rest",)], "stop", [])

    def test_answers_that_are_left(self):
        self.assert_run("var x frame into x", [1, 2, 3], [("frame",)], "stop", [(1,)])

    def test_more_answers_go_further(self):
        for number in range(40):
            source = some_source(number)
            done, how, _ = run_source(source, [1, 0, 2], 200)
            for many in range(3):
                before = run_source(source, [1, 0, 2][:many], 200)
                self.assertEqual(before[0], done[:len(before[0])])
            self.assertIn(how, ("stop", "waiting", "weary"))


class WearyTest(MeaningTest):
    def test_statements(self):
        text = "var x rest x := 1 rest x := 2 rest"
        for most, done, how, words in ((0, 0, "weary", 0), (1, 1, "weary", 0), (2, 1, "weary", 1), (3, 2, "weary", 1),
                                       (4, 2, "weary", 2), (5, 3, "stop", 2), (6, 3, "stop", 2)):
            self.assert_run(text, [], [("rest",)] * done, how, [(words,)], most)
        self.assert_run("", [], [], "stop", [], 0)
        self.assert_run("var x", [], [], "stop", [(0,)], 0)

    def test_stop_is_a_statement(self):
        self.assert_run("stop", [], [], "weary", [], 0)
        self.assert_run("stop", [], [], "stop", [], 1)

    def test_blocks(self):
        self.assert_run("if 1 { rest } rest", [], [("rest",)], "weary", [], 2)
        self.assert_run("if 1 { rest } rest", [], [("rest",)] * 2, "stop", [], 3)
        self.assert_run("if 0 { rest rest }", [], [], "stop", [], 1)

    def test_further_rounds(self):
        # The loop, one statement and a return to the condition in each round.
        text = "page p 32 1 while p[0] { rest }"
        reads, answers = [("read", 32), ("rest",)], [1, 1, 0]
        self.assert_run(text, answers, [], "weary", [], 0)
        self.assert_run(text, answers, reads[:1], "weary", [], 1)
        self.assert_run(text, answers, reads, "weary", [], 2)
        self.assert_run(text, answers, [*reads, ("read", 32)], "weary", [], 3)
        self.assert_run(text, answers, reads * 2, "weary", [], 4)
        self.assert_run(text, answers, [*reads, *reads, ("read", 32)], "stop", [], 5)

    def test_an_empty_loop(self):
        self.assert_run("while 1 { }", [], [], "weary", [], 1000)
        self.assert_run("page p 32 1 while p[0] { }", [1] * 9, [("read", 32)] * 5, "weary", [], 5)

    def test_ahead_of_waiting(self):
        self.assert_run("var x rest frame into x", [], [("rest",)], "weary", [(0,)], 1)
        self.assert_run("var x rest frame into x", [], [("rest",), ("frame",)], "waiting", [(0,)], 2)

    def test_one_less_is_not_enough(self):
        for number in range(60):
            source = some_source(number)
            answers = [1, 0] * 10
            most = next((most for most in range(200) if run_source(source, answers, most)[1] != "weary"), None)
            if most is not None:
                for more in (0, 1, 50):
                    self.assertEqual(run_source(source, answers, most + more), run_source(source, answers, most))


class KindsTest(MeaningTest):
    def test_what_is_passed_stays(self):
        source = parse_source("var x = 5 table t 2 = 7 frame into x t[1] := x if x { rest } else { stop }")
        answers = [4, 5]
        first = run_source(source, answers, 100)
        self.assertEqual(answers, [4, 5])
        self.assertEqual(run_source(source, answers, 100), first)
        first[0].clear()
        self.assertEqual(run_source(source, answers, 100)[0], [("frame",), ("rest",)])

    def test_kinds_of_values(self):
        found = self.run_text("var x table t 2 rest")
        self.assertEqual([type(part) for part in (found, *found, *found[2], found[0][0])],
                         [tuple, list, str, list, tuple, tuple, tuple])


if __name__ == "__main__":
    unittest.main()
