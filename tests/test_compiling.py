"""merestone.compiling: points 13.8 and 13.9."""

import random
import unittest

from merestone.compiling import addresses, compile_source, pages_for, partition_of
from merestone.config import Config, Partition, frame_start
from merestone.errors import TooLarge, Trap
from merestone.meaning import run_source
from merestone.plain import run_plain
from merestone.sources import Source, parse_source
from merestone.steps import user_step
from merestone.system import Watcher, booted, partition_state
from programs import Outside, own_names, run_code, some_source, some_word
from systems import COUNTER, RECEIVER, taken

ASKING = ("read", "send", "receive", "frame")


def parts_of(e):
    """How many parts an expression has, with itself."""
    inner = {"item": e[2:], "not": e[1:], "shift": e[2:3], "op": e[2:]}
    return 1 + sum(parts_of(each) for each in inner.get(e[0], ()))


def count(statements):
    """How many statements and parts of expressions there are."""
    found = 0
    for each in statements:
        kind = each[0]
        expressions = {"set": each[2:], "put": each[2:], "if": each[1:2], "while": each[1:2], "send": each[2:3]}
        found += 1 + sum(parts_of(e) for e in expressions.get(kind, ()))
        if kind in ("if", "while"):
            found += sum(count(block) for block in each[2:])
    return found


def own_size(source):
    return sum({"var": 1, "table": each[2]}.get(each[0], 0) for each in source.names)


def right_sum(need):
    """An expression that needs so many registers."""
    return "x" if need == 1 else f"x + ({right_sum(need - 1)})"


class CompilingTest(unittest.TestCase):
    def assert_too_large(self, limit, text):
        with self.assertRaises(TooLarge) as caught:
            compile_source(parse_source(text))
        self.assertEqual(caught.exception.limit, limit, text)

    def answers_for(self, source, number, many=60, most=400):
        """Answers for a program, each of its kind."""
        chance = random.Random(number)
        answers = []
        for _ in range(many):
            done, how, _ = run_source(source, answers, most)
            if how != "waiting":
                break
            answers.append({"send": chance.randrange(2), "receive": chance.choice((None, some_word(chance)))}.get(
                done[-1][0], some_word(chance)))
        return answers

    def assert_does_the_same(self, source, answers, most=400):
        """The code does what the program does; its words are those of the names at each call and at the end."""
        done, how, words = run_source(source, answers, most)
        code_done, code_how, code_words, calls = run_code(source, answers)
        if how == "weary":
            self.assertEqual(code_done[:len(done)], done)
        else:
            self.assertEqual((code_done, code_how), (done, how))
        if how == "stop":
            self.assertEqual(code_words, words)
        for behind, found in calls:
            if behind >= len(done) or how == "weary":
                continue
            if done[behind][0] == "rest":
                # The words at a rest: the program is cut off there.
                expected = self.words_at_rest(source, answers, sum(each[0] == "rest" for each in done[:behind]))
            else:
                asked = sum(each[0] in ASKING for each in done[:behind])
                expected = run_source(source, answers[:asked], most)[2]
            self.assertEqual(found, expected)
        return how

    def words_at_rest(self, source, answers, rests):
        """The words at a rest: the same program, in which each rest is a question that is answered by 0."""
        asked = Source([*source.names, ("var", "r_", 0)], renamed(source.body))
        given, done = [], []
        waiting = list(answers)
        while True:
            done, how, words = run_source(asked, given, 4000)
            if how != "waiting":
                return words[:-1]
            if done[-1] == ("send", 60000, 0):
                if sum(each == ("send", 60000, 0) for each in done) == rests + 1:
                    return words[:-1]
                given.append(0)
            elif waiting:
                given.append(waiting.pop(0))
            else:
                return words[:-1]


def renamed(statements):
    found = []
    for each in statements:
        if each == ("rest",):
            found.append(("send", 60000, ("number", 0), "r_"))
        elif each[0] in ("if", "while"):
            found.append((*each[:2], *[renamed(block) for block in each[2:]]))
        else:
            found.append(each)
    return found


class ImageTest(CompilingTest):
    def test_example(self):
        source = parse_source("var n = 2 var ok while n < 5 { send 0, n * n into ok n := n + ok }")
        self.assertEqual([len(compile_source(source)) <= 128, addresses(source)["ok"] - addresses(source)["n"]],
                         [True, 1])

    def test_the_words_of_the_names_stand_behind_the_code(self):
        source = parse_source("var a = 7 table t 4 = 1, 2 page p 64 4 var b table u 2 = 9, 8 a := b + 1")
        image = compile_source(source)
        self.assertEqual(image[-8:], [7, 1, 2, 0, 0, 0, 9, 8])
        at = len(image) - 8
        self.assertEqual(addresses(source), {"a": at, "t": at + 1, "b": at + 5, "u": at + 6})
        self.assertEqual(list(addresses(source)), ["a", "t", "b", "u"])
        self.assertEqual(addresses(parse_source("page p 64 4")), {})
        self.assertTrue(all(type(word) is int and 0 <= word <= 65535 for word in image))

    def test_at_most_16_words_for_each_statement_and_part(self):
        for number in range(400):
            source = some_source(number, 64)
            try:
                image = compile_source(source)
            except TooLarge:
                continue
            self.assertLessEqual(len(image) - own_size(source), 16 * count(source.body) + 3)
        for names in ("", "var x", "table t 64"):
            self.assertLessEqual(len(compile_source(parse_source(names))) - own_size(parse_source(names)), 3)

    def test_words_that_are_far_away(self):
        # The first 64 words are those of a table, or the last ones: all of them are reached.
        for names in ("table t 64 var a var b = 3", "var a var b = 3 table t 64", "var a table t 64 var b = 3"):
            source = parse_source(f"{names} t[b] := b t[63] := b + 1 a := t[b + 60] a := a + t[b] send 9, a + t[0]")
            self.assertEqual(self.assert_does_the_same(source, [1]), "stop")
            self.assertEqual(run_source(source, [1], 99)[0], [("send", 9, 7)])

    def test_loops_and_choices_that_are_long(self):
        inner = "x := x + y * 3 t[x] := x "
        for many in range(4):
            for text in ("while x < 90 {{ {} x := x + 1 }}", "if x == y {{ {} }} else {{ y := 9 {} }}",
                         "while x != 40 {{ if x < 20 {{ {} x := x + 1 }} else {{ {} x := 40 }} }}"):
                source = parse_source("var x var y table t 4 " + text.format(inner * many, inner * (many // 2)))
                self.assert_does_the_same(source, [], 3000)

    def test_partition_of(self):
        source = parse_source("var n = 2 send 0, n into n")
        self.assertEqual(partition_of(source), Partition(compile_source(source), 1, 0))
        source = parse_source("table t 32 t[1] := 2")
        partition = partition_of(source)
        self.assertEqual((partition.pages, partition.start), (3, 0))
        self.assertEqual(partition.image, tuple(compile_source(source)))
        self.assertEqual(partition_of(parse_source("")).pages, 1)

    def test_pages_for(self):
        for words, pages in ((0, 0), (1, 1), (15, 1), (16, 1), (17, 2), (32, 2), (33, 3), (112, 7), (113, 8), (128, 8)):
            self.assertEqual(pages_for([0] * words), pages)

    def test_the_source_stays(self):
        text = "var n = 2 table t 4 = 1 if n { t[n] := n } else { stop }"
        source = parse_source(text)
        self.assertEqual(compile_source(source), compile_source(source))
        self.assertEqual(source, parse_source(text))


class TooLargeTest(CompilingTest):
    def test_expressions_that_need_five_and_six_registers(self):
        names = "var x = 3 table t 8 "
        for before, behind in (("x := ", ""), ("if ", " { }"), ("while ", " { x := 0 }"), ("send 1, ", " into x"),
                               ("t[", "] := x"), ("x := t[", "]"), ("x := ~(", ")"), ("x := (", ") << 3"),
                               ("x := x * 3 + ~t[x] < ", ""), ("if x { x := ", " }"), ("if x { } else { x := ", " }"),
                               ("while x { x := 0 x := ", " }")):
            most = 4 if "*" in before else 5
            source = parse_source(names + before + right_sum(most).replace("x + (x)", "x + x") + behind)
            self.assert_does_the_same(source, [1])
            self.assert_too_large("depth", names + before + "(" + right_sum(most + 1) + ")" + behind)

    def test_what_an_expression_needs(self):
        names = "var x = 3 table t 8 page p 112 8 "
        for text, need in (("1", 1), ("x", 1), ("t[x]", 1), ("~x", 1), ("x << 2", 1), ("t[p[~x]]", 1), ("x + 1", 2),
                           ("x + x + x + x", 2), ("x + (x + x)", 3), ("(x + x) + (x + x)", 3), ("t[x + 1] * 2", 2),
                           ("2 * t[x + 1]", 3), ("~(x + x) < (x + x << 2)", 3), ("x + ((x + x) + (x + x))", 4)):
            # Behind so many further sums, it needs five registers, and six behind one more.
            whole = text
            for _ in range(5 - need):
                whole = f"x + ({whole})"
            self.assert_does_the_same(parse_source(names + "x := " + whole), [4] * 9)
            self.assert_too_large("depth", names + f"x := x + ({whole})")

    def test_an_index_that_is_set(self):
        for name, other in (("t", "p"), ("p", "t")):
            names = "var x = 3 table t 8 = 1, 2 page p 112 8 "
            for index in ("x", "x + 1", "7", f"{other}[x]", right_sum(5)):
                source = parse_source(names + f"{name}[{index}] := {right_sum(4)}")
                self.assert_does_the_same(source, [5])
                self.assert_too_large("depth", names + f"{name}[{index}] := {right_sum(5)}")
            self.assert_too_large("depth", names + f"{name}[{right_sum(6)}] := 1")
            compile_source(parse_source(names + f"x := {right_sum(5)}"))

    def test_images_of_128_and_of_129_words(self):
        for body in ("", "x := x + 1", "t[x] := x send 1, t[3]", "while x < 9 { x := x + 1 rest }"):
            # Tables fill the image up; the last words are those of variables.
            fixed = "table t 64 var x "
            size = len(compile_source(parse_source(fixed + body)))
            names, left = fixed, 128 - size
            for each in (32, 16, 8, 4, 2, 1):
                if left >= each:
                    names, left = names + f"table f{each} {each} ", left - each
            image = compile_source(parse_source(names + body))
            self.assertEqual((len(image), pages_for(image)), (128, 8), body)
            self.assertEqual(addresses(parse_source(names + body))["t"], size - 65)
            self.assert_does_the_same(parse_source(names + body), [1])
            self.assert_too_large("words", names + "var last " + body)
            self.assert_too_large("words", names + "table last 64 " + body)
        self.assert_too_large("words", "var x " + "x := x * x " * 60)
        self.assert_too_large("words", "table a 64 table b 64")

    def test_long_sums(self):
        self.assert_too_large("words", "var x x := x" + " + x" * 3000)
        self.assert_too_large("depth", "var x x := x" + " + x" * 3000 + " + (x + (x + (x + (x + x))))")
        self.assert_too_large("words", "var x " + "if x { rest } else { while x { stop } } " * 400)

    def test_a_page_below_and_at_the_end_of_the_image(self):
        for size in (1, 4, 16):
            for names, pages in (("", 1), ("table t 32 ", 3), ("table t 64 ", 5)):
                source = parse_source(f"{names}page p {16 * pages} {size} p[1] := 7")
                self.assertEqual(pages_for(compile_source(source)), pages)
                self.assertEqual(run_code(source, [])[:2], ([("write", 16 * pages + 1 % size, 7)], "stop"))
                self.assert_too_large("page", f"{names}page p {16 * pages - 1} {size} p[1] := 7")
                self.assert_too_large("page", f"{names}page p 0 {size} p[1] := 7")
                # Also if it is not used, and behind one that fits.
                self.assert_too_large("page", f"{names}page p {16 * pages} 1 page q {16 * pages - 1} {size}")

    def test_the_errors_in_their_order(self):
        deep, long = f"x := {right_sum(6)} ", "x := x * x " * 60
        self.assert_too_large("depth", "var x page p 0 1 " + long + deep)
        self.assert_too_large("depth", "var x page p 0 1 " + deep)
        self.assert_too_large("words", "var x page p 0 1 " + long)
        self.assert_too_large("page", "var x page p 0 1 ")

    def test_addresses_and_partitions_of_what_is_too_large(self):
        with self.assertRaises(TooLarge):
            partition_of(parse_source("table a 64 table b 64"))
        found = addresses(parse_source("table a 64 table b 64"))
        self.assertEqual(found["b"] - found["a"], 64)


class CodeTest(CompilingTest):
    def test_every_sign(self):
        words = (0, 1, 2, 7, 8, 9, 255, 32767, 32768, 65527, 65528, 65529, 65534, 65535)
        for sign in ("==", "!=", "<", "+", "-", "|", "^", "*", "&"):
            for first in words:
                for second in words:
                    # The second part is a variable, and a number; the value is set, and is a condition.
                    source = parse_source(
                        f"var a = {first} var b = {second} var c var d var e a := a {sign} b c := {first} "
                        f"d := c {sign} {second} if c {sign} b {{ e := 1 }} else {{ e := 2 }} "
                        f"while c {sign} {second} {{ stop }} d := 9")
                    self.assert_does_the_same(source, [])

    def test_shifts_and_inversion(self):
        for word in (0, 1, 40961, 65535):
            for number in range(16):
                source = parse_source(f"var a = {word} var b var c b := a << {number} c := a >> {number} a := ~a")
                self.assert_does_the_same(source, [])

    def test_indexes(self):
        for size in (1, 2, 4, 8, 16, 32):
            for index in (0, 1, size - 1, size, size + 1, 255, 65535):
                text = (f"var i = {index} var x table t {size} = 9 page p 112 {min(size, 16)} t[i] := 5 x := t[i] "
                        f"t[{index}] := x + 1 x := t[{index}] p[i] := x p[{index}] := p[i] x := p[{index}]")
                self.assertEqual(self.assert_does_the_same(parse_source(text), [3, 4]), "stop")

    def test_an_index_that_reads_is_worked_out_for_a_size_of_1(self):
        source = parse_source("var x table t 1 = 7 page p 112 8 x := t[p[1]] t[p[2]] := 8 p[p[3]] := t[p[4]]")
        self.assertEqual(self.assert_does_the_same(source, [9, 9, 9, 9]), "stop")
        source = parse_source("var x page q 120 1 page p 112 8 x := q[p[1]] q[p[2]] := 8")
        self.assertEqual(self.assert_does_the_same(source, [9, 9, 9, 9]), "stop")

    def test_calls(self):
        for text in ("send 0, x", "send 3, x into x", "send 65535, y + 1 into y", "send 7, 0",
                     "receive 0 into x, y", "receive 3 into x, x", "receive 65535 into y, x", "frame into x", "rest",
                     "stop", "rest stop rest"):
            for answer in (0, 1, 65535) if text.split()[0] in ("receive", "frame") else (0, 1):
                source = parse_source(f"var x = 7 var y = 8 {text} x := x + 1 send 1, x into y")
                self.assert_does_the_same(source, [answer, 1])
        for text in ("receive 0 into x, y", "receive 3 into x, x"):
            source = parse_source(f"var x = 7 var y = 8 {text} frame into y")
            self.assert_does_the_same(source, [None, 1])

    def test_the_words_of_the_names_at_each_call(self):
        source = parse_source("var x table t 2 = 5 while x < 4 { x := x + 1 t[x] := x + 7 send 1, x into x rest }")
        answers = [1, 2, 3, 4]
        self.assert_does_the_same(source, answers)
        _, _, _, calls = run_code(source, answers)
        self.assertEqual(calls[:3], [(0, [(1,), (5, 8)]), (1, [(1,), (5, 8)]), (2, [(2,), (9, 8)])])

    def test_many_programs(self):
        ends = []
        for number in range(1500):
            source = some_source(number, 64 if number % 4 == 0 else 8)
            try:
                compile_source(source)
            except TooLarge:
                continue
            ends.append(self.assert_does_the_same(source, self.answers_for(source, number)))
        self.assertGreater(ends.count("stop"), 900)
        self.assertGreater(ends.count("waiting"), 10)
        self.assertGreater(ends.count("weary"), 10)

    def test_addresses_that_are_not_allowed(self):
        source = parse_source("var x page p 32 16 p[1] := 3 x := p[2] p[p[3]] := p[4] rest")
        for forbidden, done in ((33, 0), (34, 1), (35, 2), (36, 3), (39, 4)):
            view = Outside(compile_source(source), [5, 7, 8], (forbidden,))
            expected = run_source(source, [5, 7, 8], 99)[0][:done]
            self.assertEqual(self.ended(view), (expected, (2, forbidden)))

    def ended(self, view):
        """What a program does up to a trap, and this."""
        registers, pc = [0] * 8, 0
        while True:
            try:
                pc = user_step(registers, pc, view)
            except Trap as caught:
                return view.done, (caught.cause, caught.value)


class PartitionsTest(CompilingTest):
    """Programs as partitions of the plain system, and of the machine."""

    def assert_machine(self, config, inputs, plain):
        machine = booted(config, inputs)
        watcher = Watcher(machine, config)
        watcher.run(frame_start(config, plain.number) - 1)
        for p in range(len(config.partitions)):
            self.assertEqual(partition_state(machine, config, p), plain.state(p))
            self.assertEqual(watcher.traces[p], plain.trace(p))

    def words(self, plain, p, source):
        """The end of a partition, and the words of its names."""
        view = Outside([word for words in plain.state(p)[3] for word in words], [])
        return plain.state(p)[2], own_names(source, view)

    def test_sums_over_channels(self):
        first = parse_source("var n = 1 var ok while n < 6 { send 0, n * n into ok "
                             "if ok { n := n + 1 } else { rest } }")
        second = parse_source("var got var word var sum var last while last != 25 { receive 0 into got, word if got "
                              "{ sum := sum + word last := word } else { rest } } send 1, sum")
        config = taken(Config([partition_of(first), partition_of(second)], [(0, 1500), (1, 1200)],
                              [(0, 1, 2, True), (1, 0, 1, False)], [], [], [(0, 1), (1, 0)]))
        plain = run_plain(config, [], 12)
        self.assertEqual(self.words(plain, 0, first), ((5, 0), [(6,), (1,)]))
        self.assertEqual(self.words(plain, 1, second), ((5, 0), [(1,), (25,), (55,), (25,)]))
        self.assertEqual(plain.rest()[2], ((), (55,)))
        self.assert_machine(config, [], plain)

    def test_pages_and_frames(self):
        first = parse_source("var f page out 64 16 while 1 { frame into f out[f] := f * 3 rest }")
        second = parse_source("var f var sum page in 80 16 page ring 96 16 while sum < 900 { frame into f "
                              "sum := sum + in[f - 1] + ring[2 + f - f] rest }")
        with_pages = [Partition(partition_of(each).image, pages, 0) for each, pages in ((first, 4), (second, 5))]
        config = taken(Config(with_pages, [(0, 400), (1, 400)], [], [(0, 1)], [1], [(0, 1)]))
        inputs = [(500, 0, 200)]
        plain = run_plain(config, inputs, 14)
        # Frames 1, 3 and so on: 3 times the even numbers, and 200 each time.
        end, (frame, total) = self.words(plain, 1, second)
        self.assertEqual((end, frame, total), ((5, 0), (9,), (sum(3 * k + 200 for k in (0, 2, 4, 6, 8)),)))
        self.assertEqual(self.words(plain, 0, first), (None, [(12,)]))
        self.assertEqual([each[3:] for each in plain.events], [(k, 3 * k) for k in range(0, 13, 2)])
        self.assert_machine(config, inputs, plain)

    def test_a_write_to_a_page_that_is_not_allowed(self):
        source = parse_source("var x = 5 page p 16 16 x := p[3] + 1 rest p[3] := x")
        self.assertEqual(pages_for(compile_source(source)), 1)
        config = taken(Config([COUNTER, partition_of(source)], [(1, 400)], [], [(0, 1)], [], [(0, 1)]))
        plain = run_plain(config, [], 3)
        self.assertEqual(self.words(plain, 1, source), ((2, 19), [(1,)]))
        self.assert_machine(config, [], plain)
        lone = taken(Config([partition_of(source)], [(0, 400)], [], [], [], []))
        self.assertEqual(self.words(run_plain(lone, [], 3), 0, source), ((2, 19), [(5,)]))

    def test_channels_of_others(self):
        source = parse_source("var a = 9 var b = 9 var c = 9 send 0, 5 into a send 7, 5 into b receive 1 into c, c")
        config = taken(Config([partition_of(source), RECEIVER], [(0, 1000)], [(1, 0, 2, False), (0, 1, 2, False)], [],
                              [], [(0, 1), (1, 0)]))
        plain = run_plain(config, [], 2)
        self.assertEqual(self.words(plain, 0, source), ((5, 0), [(0,), (0,), (0,)]))
        self.assert_machine(config, [], plain)

    def test_an_empty_program(self):
        config = taken(Config([partition_of(parse_source(""))], [(0, 200)], [], [], [], []))
        plain = run_plain(config, [], 1)
        self.assertEqual(plain.state(0)[2], (5, 0))
        self.assert_machine(config, [], plain)


if __name__ == "__main__":
    unittest.main()
