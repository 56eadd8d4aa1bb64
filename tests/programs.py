"""What the tests of the language of partitions have in common: programs by numbers, and how their code is run."""

import random

from merestone.compiling import addresses, compile_source
from merestone.errors import Trap
from merestone.sources import Source
from merestone.steps import View, user_step

SIGNS = ("+", "-", "*", "&", "|", "^", "==", "!=", "<")
SIZES = (1, 2, 4, 8, 16, 32, 64)


def some_word(source):
    return source.choice((0, 0, 1, 2, 3, 7, 8, 9, source.randrange(16), source.randrange(65536), 65528, 65535, 32768))


def some_names(source, largest=8):
    """Declarations; the first one is always a variable."""
    found = [("var", "v0", some_word(source))]
    for k in range(source.randrange(7)):
        kind = source.choice(("var", "var", "table", "page"))
        if kind == "var":
            found.append(("var", f"v{k + 1}", some_word(source)))
        elif kind == "table":
            size = source.choice([each for each in SIZES if each <= largest])
            words = tuple(some_word(source) for _ in range(source.randrange(size + 1)))
            found.append(("table", f"t{k}", size, words))
        else:
            size = source.choice(SIZES[:5])
            found.append(("page", f"p{k}", source.randrange(64, 129 - size), size))
    return found


class Maker:
    """Makes expressions and statements for some names."""

    def __init__(self, source, names):
        self.source = source
        self.variables = [each[1] for each in names if each[0] == "var"]
        self.indexed = [each[1] for each in names if each[0] != "var"]

    def expression(self, depth, nested=8):
        """An expression that needs at most so many registers, and is nested at most so deep."""
        source = self.source
        choice = source.random()
        if choice < 0.25:
            return ("number", some_word(source))
        if choice < 0.45 or nested == 0:
            return ("name", source.choice(self.variables))
        inner = self.expression(depth, nested - 1)
        if choice < 0.65 and self.indexed:
            return ("item", source.choice(self.indexed), inner)
        if choice < 0.72:
            return ("not", inner)
        if choice < 0.8:
            return ("shift", source.choice(("<<", ">>")), inner, source.randrange(16))
        if depth > 1:
            return ("op", source.choice(SIGNS), inner, self.expression(depth - 1, nested - 1))
        return ("name", source.choice(self.variables))

    def condition(self):
        if self.source.random() < 0.5:
            return ("op", self.source.choice(SIGNS[6:]), self.expression(2), self.expression(2))
        return self.expression(2)

    def asking(self):
        """A statement that is a call."""
        source = self.source
        choice = source.randrange(5)
        if choice < 2:
            return ("send", some_word(source), self.expression(2), source.choice(self.variables + [""]))
        if choice < 4:
            return ("receive", some_word(source), source.choice(self.variables), source.choice(self.variables))
        return source.choice([("frame", source.choice(self.variables)), ("rest",)])

    def statement(self, depth):
        source = self.source
        choice = source.random()
        if choice < 0.3:
            return ("set", source.choice(self.variables), self.expression(3))
        if choice < 0.5 and self.indexed:
            return ("put", source.choice(self.indexed), self.expression(3), self.expression(3))
        if choice < 0.8 or depth == 0:
            return self.asking()
        if choice < 0.82:
            return ("stop",)
        if choice < 0.92:
            return ("if", self.condition(), self.statements(depth - 1), self.statements(depth - 1))
        return ("while", self.condition(), self.statements(depth - 1))

    def statements(self, depth):
        return [self.statement(depth) for _ in range(self.source.randrange(4))]


def some_source(number, largest=8):
    """A program, by a number."""
    source = random.Random(number)
    names = some_names(source, largest)
    maker = Maker(source, names)
    return Source(names, [maker.statement(2) for _ in range(source.randrange(1, 5))])


class Outside(View):
    """The pages of a partition with an image; what is done outside of its own ones is noted and answered.

    It stops with the trap of the cause 99 where there is no answer.
    """

    def __init__(self, image, answers, forbidden=()):
        self.own = list(image) + [0] * (-len(image) % 16)
        self.answers = list(answers)
        self.forbidden = forbidden
        self.done = []

    def ask(self, question):
        self.done.append(question)
        if not self.answers:
            raise Trap(99, 0)
        return self.answers.pop(0)

    def fetch(self, address):
        if address >= len(self.own):
            raise Trap(2, address)
        return self.own[address]

    def load(self, address):
        if address < len(self.own):
            return self.own[address]
        if address >= 128 or address in self.forbidden:
            raise Trap(2, address)
        return self.ask(("read", address))

    def store(self, address, word):
        if address < len(self.own):
            self.own[address] = word
        elif address >= 128 or address in self.forbidden:
            raise Trap(2, address)
        else:
            self.done.append(("write", address, word))


def own_names(source, view):
    """The words of the names, as they stand in the own pages."""
    at = addresses(source)
    sizes = {each[1]: 1 if each[0] == "var" else each[2] for each in source.names}
    return [tuple(view.own[at[name]:at[name] + sizes[name]]) for name in at]


def serve(registers, number, view):
    """Carries out a call; returns False if it is none of the four."""
    if number == 0:
        view.done.append(("rest",))
    elif number == 1:
        registers[0] = view.ask(("send", registers[0], registers[1]))
    elif number == 2:
        word = view.ask(("receive", registers[0]))
        registers[0] = 0 if word is None else 1
        if word is not None:
            registers[1] = word
    elif number == 3:
        registers[0] = view.ask(("frame",))
    return number < 4


def run_code(source, answers, most=20000):
    """What run_source tells, as the code of a program does it; also the words of the names at each call.

    Ends with "stop", "waiting" or "weary" behind so many instructions, or with (cause, value) of another trap.
    """
    view = Outside(compile_source(source), answers)
    registers, pc, at_calls = [0] * 8, 0, []
    for _ in range(most):
        try:
            pc = user_step(registers, pc, view)
        except Trap as caught:
            if caught.cause == 99:
                return view.done, "waiting", own_names(source, view), at_calls
            if caught.cause == 5:
                return view.done, "stop", own_names(source, view), at_calls
            if caught.cause != 3:
                return view.done, (caught.cause, caught.value), own_names(source, view), at_calls
            at_calls.append((len(view.done), own_names(source, view)))
            pc += 1
            try:
                assert serve(registers, caught.value, view)
            except Trap:
                return view.done, "waiting", own_names(source, view), at_calls
    return view.done, "weary", own_names(source, view), at_calls
