"""Programs of partitions: what they do, step by step."""

from merestone.errors import MerestoneError
from merestone.steps import calculated, holds
from merestone.trees import BRANCHES, OPERATIONS, unrolled
from merestone.words import shift_left, shift_right, sub

# The word whose bits are all set.
ALL_BITS = 65535


class Finish(MerestoneError):
    """The end of a program before its last statement; how it ends is told by a text."""

    def __init__(self, how):
        self.how = how


class Run:
    """A program that is carried out."""

    def __init__(self, source, answers, most):
        self.declared = {declared[1]: declared for declared in source.names}
        self.contents = {}
        for declared in source.names:
            if declared[0] == "var":
                self.contents[declared[1]] = [declared[2]]
            elif declared[0] == "table":
                self.contents[declared[1]] = list(declared[3]) + [0] * (declared[2] - len(declared[3]))
        self.answers = list(answers)
        self.answered = 0
        self.unspent = most
        self.done = []

    def spend(self):
        """A statement, or a further round of a loop, begins."""
        if self.unspent <= 0:
            raise Finish("weary")
        self.unspent -= 1

    def ask(self, question):
        """Does something outside that is answered; returns the answer."""
        self.done.append(question)
        if self.answered >= len(self.answers):
            raise Finish("waiting")
        self.answered += 1
        return self.answers[self.answered - 1]

    def place_of(self, name, index):
        """What an index means: an address for a page, a place in the words for a table."""
        declared = self.declared[name]
        if declared[0] == "page":
            return declared[2] + index % declared[3]
        return index % declared[2]

    def get_item(self, name, index):
        """The word of an item."""
        place = self.place_of(name, index)
        if name in self.contents:
            return self.contents[name][place]
        return self.ask(("read", place))

    def put_item(self, name, index, word):
        """Gives an item a word."""
        place = self.place_of(name, index)
        if name in self.contents:
            self.contents[name][place] = word
        else:
            self.done.append(("write", place, word))

    def set_name(self, name, word):
        """Gives a variable a word."""
        self.contents[name][0] = word


def result(sign, first, second):
    """The word that a sign makes of two words, or of a word and a number of bits."""
    if sign in BRANCHES:
        return 1 if holds(BRANCHES[sign], first, second) else 0
    if sign == "<<":
        return shift_left(first, second)
    if sign == ">>":
        return shift_right(first, second)
    return calculated(OPERATIONS[sign], first, second)


def first_word(run, expression):
    """The word of an expression that is no operation."""
    kind = expression[0]
    if kind == "number":
        return expression[1]
    if kind == "name":
        return run.contents[expression[1]][0]
    if kind == "not":
        return sub(ALL_BITS, word_of(run, expression[1]))
    return run.get_item(expression[1], word_of(run, expression[2]))


def word_of(run, expression):
    """The word of an expression."""
    first, operations = unrolled(expression)
    word = first_word(run, first)
    for operation in operations:
        second = operation[3]
        if operation[0] == "op":
            second = word_of(run, second)
        word = result(operation[1], word, second)
    return word


def carry_set(run, statement):
    """A variable becomes a word."""
    run.set_name(statement[1], word_of(run, statement[2]))


def carry_put(run, statement):
    """An item becomes a word."""
    _, name, at, worth = statement
    index = word_of(run, at)
    run.put_item(name, index, word_of(run, worth))


def carry_if(run, statement):
    """One of two blocks."""
    _, condition, first, second = statement
    if word_of(run, condition) != 0:
        carry_all(run, first)
    else:
        carry_all(run, second)


def carry_while(run, statement):
    """A block, as long as a condition holds."""
    _, condition, body = statement
    while word_of(run, condition) != 0:
        carry_all(run, body)
        run.spend()


def carry_send(run, statement):
    """A word is sent."""
    _, channel, worth, name = statement
    answer = run.ask(("send", channel, word_of(run, worth)))
    if name != "":
        run.set_name(name, answer)


def carry_receive(run, statement):
    """A word is received, if there is one."""
    _, channel, told, name = statement
    answer = run.ask(("receive", channel))
    if answer is None:
        run.set_name(told, 0)
    else:
        # Both names may be the same one: the word comes last.
        run.set_name(told, 1)
        run.set_name(name, answer)


def carry_frame(run, statement):
    """The number of the frame is asked for."""
    run.set_name(statement[1], run.ask(("frame",)))


def carry_rest(run, statement):
    """Rests until the next frame."""
    run.done.append(("rest",))


def carry_stop(run, statement):
    """Stops the program."""
    raise Finish("stop")


CARRIED = {
    "set": carry_set,
    "put": carry_put,
    "if": carry_if,
    "while": carry_while,
    "send": carry_send,
    "receive": carry_receive,
    "frame": carry_frame,
    "rest": carry_rest,
    "stop": carry_stop,
}


def carry_all(run, statements):
    """Carries out statements, one after the other."""
    for statement in statements:
        run.spend()
        action = CARRIED[statement[0]]
        action(run, statement)


def run_source(source, answers, most):
    """What a program does outside, how it ends, and the words of its variables and tables."""
    run = Run(source, answers, most)
    how = "stop"
    try:
        carry_all(run, source.body)
    except Finish as caught:
        how = caught.how
    return (run.done, how, [tuple(run.contents[name]) for name in run.contents])
