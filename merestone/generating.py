"""Programs of partitions: a Source as a list of pieces of code.

Pieces are tuples. What they become is told by merestone.laying, which knows how far all places are from one another:
- ("code", op, a, b, c): an instruction; ("constant", a, word): the register a becomes a word;
- ("load", a, offset), ("store", a, offset): the register a, and a word of the program's own;
- ("fetch", a, offset): the register a holds an index, and becomes the word so far behind a word of the program's own;
- ("keep", a, b, offset): the register b becomes the content of such a word, by the index in the register a;
- ("label", number): a place; ("jump", number): the place comes next; ("branch", op, a, b, number): it does so if a
  condition holds.
An offset is counted from the first of the program's own words.

Expressions are worked out in the registers from FIRST on. The register ASIDE is free between two pieces, and
the calls take the registers 0 and 1.
"""

from merestone.trees import BRANCHES, OPERATIONS, unrolled
from merestone.words import signed, wrap

FIRST = 1
ASIDE = 6
# This register tells where the program's own words are.
BASE = 7

ALL_BITS = 65535
# The bits of a word.
BITS = 16

SEND = 1
RECEIVE = 2
FRAME = 3
REST = 0

# The branch that is taken if a comparison does not hold; "<" has none.
UNLESS = {"==": "bne", "!=": "beq"}


def size_of_name(declared):
    """How many words of the program's own a name has."""
    if declared[0] == "var":
        return 1
    if declared[0] == "table":
        return declared[2]
    return 0


class Generator:
    """Makes the pieces of a program."""

    def __init__(self, source):
        self.pieces = []
        self.labels = 0
        self.declared = {declared[1]: declared for declared in source.names}
        self.offsets = {}
        behind = 0
        for declared in source.names:
            if declared[0] != "page":
                self.offsets[declared[1]] = behind
            behind += size_of_name(declared)

    def emit(self, *piece):
        """Adds a piece."""
        self.pieces.append(piece)

    def code(self, op, a, b, c):
        """Adds an instruction."""
        self.emit("code", op, a, b, c)

    def new_label(self):
        """A label that has not been used."""
        self.labels += 1
        return self.labels

    def zero(self, a):
        """A register becomes 0."""
        self.code("sub", a, a, a)

    def constant(self, a, word):
        """A register becomes a word."""
        if word == 0:
            self.zero(a)
        else:
            self.emit("constant", a, word)


def index_size(maker, name):
    """How many words an index of a table or page can mean."""
    declared = maker.declared[name]
    if declared[0] == "page":
        return declared[3]
    return declared[2]


def fixed_index(maker, name, index):
    """The place that an index means, if this is known without working it out; otherwise None."""
    if index[0] == "number":
        return index[1] % index_size(maker, name)
    return None


def make_index(maker, name, index, a):
    """A register becomes the place that an index means."""
    make_word(maker, index, a)
    size = index_size(maker, name)
    if size == 1:
        maker.zero(a)
    else:
        # The bits above are shifted out; a size is a power of 2.
        count = BITS + 1 - size.bit_length()
        maker.code("shl", a, a, count)
        maker.code("shr", a, a, count)


def make_page_address(maker, address, a):
    """A register that holds a place in a page becomes its address."""
    maker.constant(ASIDE, address)
    maker.code("add", a, a, ASIDE)


def make_item(maker, name, index, a):
    """A register becomes the word of an item."""
    place = fixed_index(maker, name, index)
    if place is None:
        make_index(maker, name, index, a)
    if name in maker.offsets:
        if place is None:
            maker.emit("fetch", a, maker.offsets[name])
        else:
            maker.emit("load", a, maker.offsets[name] + place)
        return
    address = maker.declared[name][2]
    if place is None:
        make_page_address(maker, address, a)
    else:
        maker.constant(a, address + place)
    maker.code("load", a, a, 0)


def make_first(maker, expression, a):
    """A register becomes the word of an expression that is no operation."""
    kind = expression[0]
    if kind == "number":
        maker.constant(a, expression[1])
    elif kind == "name":
        maker.emit("load", a, maker.offsets[expression[1]])
    elif kind == "not":
        make_word(maker, expression[1], a)
        maker.constant(ASIDE, ALL_BITS)
        maker.code("xor", a, a, ASIDE)
    else:
        make_item(maker, expression[1], expression[2], a)


def small_sum(operation):
    """The number from -8 to 7 that an operation adds, or None."""
    kind, sign, _, second = operation
    if kind == "shift" or sign not in ("+", "-") or second[0] != "number":
        return None
    number = second[1]
    if sign == "-":
        number = wrap(-number)
    if -8 <= signed(number) <= 7:
        return signed(number)
    return None


def make_comparison(maker, op, a):
    """A register becomes 1 if a branch with it and the next one is taken, otherwise 0."""
    over = maker.new_label()
    maker.zero(ASIDE)
    maker.emit("branch", op, a, a + 1, over)
    maker.code("addi", ASIDE, ASIDE, 15)
    maker.emit("label", over)
    maker.code("addi", a, ASIDE, 1)


def make_operation(maker, operation, a):
    """A register becomes what an operation makes of it."""
    kind, sign, _, second = operation
    number = small_sum(operation)
    if number is not None:
        maker.code("addi", a, a, number % 16)
    elif kind == "shift":
        maker.code(OPERATIONS[sign], a, a, second)
    else:
        make_word(maker, second, a + 1)
        if sign in BRANCHES:
            make_comparison(maker, BRANCHES[sign], a)
        else:
            maker.code(OPERATIONS[sign], a, a, a + 1)


def make_word(maker, expression, a):
    """A register becomes the word of an expression; those behind it may change."""
    first, operations = unrolled(expression)
    make_first(maker, first, a)
    for operation in operations:
        make_operation(maker, operation, a)


def is_comparison(expression):
    """True if an expression is a comparison."""
    return expression[0] == "op" and expression[1] in BRANCHES


def make_unless(maker, condition, number):
    """A label comes next unless a condition holds."""
    if condition[0] == "number":
        if condition[1] == 0:
            maker.emit("jump", number)
        return
    if not is_comparison(condition):
        make_word(maker, condition, FIRST)
        maker.zero(ASIDE)
        maker.emit("branch", "beq", FIRST, ASIDE, number)
        return
    _, sign, first, second = condition
    make_word(maker, first, FIRST)
    make_word(maker, second, FIRST + 1)
    if sign in UNLESS:
        maker.emit("branch", UNLESS[sign], FIRST, FIRST + 1, number)
    else:
        holds = maker.new_label()
        maker.emit("branch", "blt", FIRST, FIRST + 1, holds)
        maker.emit("jump", number)
        maker.emit("label", holds)


def make_set(maker, statement):
    """A variable becomes a word."""
    make_word(maker, statement[2], FIRST)
    maker.emit("store", FIRST, maker.offsets[statement[1]])


def make_put_page(maker, statement, place):
    """A word is written to a page; the place in it is told, or None if it stands in a register."""
    _, name, _, worth = statement
    address = maker.declared[name][2]
    if place is None:
        make_word(maker, worth, FIRST + 1)
        make_page_address(maker, address, FIRST)
        maker.code("store", FIRST + 1, FIRST, 0)
    else:
        make_word(maker, worth, FIRST)
        maker.constant(ASIDE, address + place)
        maker.code("store", FIRST, ASIDE, 0)


def make_put(maker, statement):
    """An item becomes a word."""
    _, name, index, worth = statement
    place = fixed_index(maker, name, index)
    if place is None:
        make_index(maker, name, index, FIRST)
    if name not in maker.offsets:
        make_put_page(maker, statement, place)
    elif place is None:
        make_word(maker, worth, FIRST + 1)
        maker.emit("keep", FIRST, FIRST + 1, maker.offsets[name])
    else:
        make_word(maker, worth, FIRST)
        maker.emit("store", FIRST, maker.offsets[name] + place)


def make_if(maker, statement):
    """One of two blocks."""
    _, condition, first, second = statement
    end = maker.new_label()
    if len(second) == 0:
        make_unless(maker, condition, end)
        make_all(maker, first)
    else:
        other = maker.new_label()
        make_unless(maker, condition, other)
        make_all(maker, first)
        maker.emit("jump", end)
        maker.emit("label", other)
        make_all(maker, second)
    maker.emit("label", end)


def make_while(maker, statement):
    """A block, as long as a condition holds."""
    _, condition, body = statement
    top = maker.new_label()
    end = maker.new_label()
    maker.emit("label", top)
    make_unless(maker, condition, end)
    make_all(maker, body)
    maker.emit("jump", top)
    maker.emit("label", end)


def make_send(maker, statement):
    """A word is sent."""
    _, channel, worth, name = statement
    make_word(maker, worth, FIRST)
    maker.constant(0, channel)
    maker.code("call", 0, 0, SEND)
    if name != "":
        maker.emit("store", 0, maker.offsets[name])


def make_receive(maker, statement):
    """A word is received, if there is one."""
    _, channel, told, name = statement
    over = maker.new_label()
    maker.constant(0, channel)
    maker.code("call", 0, 0, RECEIVE)
    maker.emit("store", 0, maker.offsets[told])
    maker.zero(ASIDE)
    maker.emit("branch", "beq", 0, ASIDE, over)
    maker.emit("store", 1, maker.offsets[name])
    maker.emit("label", over)


def make_frame(maker, statement):
    """The number of the frame is asked for."""
    maker.code("call", 0, 0, FRAME)
    maker.emit("store", 0, maker.offsets[statement[1]])


def make_rest(maker, statement):
    """Rests until the next frame."""
    maker.code("call", 0, 0, REST)


def make_stop(maker, statement):
    """Stops the program."""
    maker.code("halt", 0, 0, 0)


MADE = {
    "set": make_set,
    "put": make_put,
    "if": make_if,
    "while": make_while,
    "send": make_send,
    "receive": make_receive,
    "frame": make_frame,
    "rest": make_rest,
    "stop": make_stop,
}


def make_all(maker, statements):
    """The pieces of statements, one after the other."""
    for statement in statements:
        action = MADE[statement[0]]
        action(maker, statement)


def pieces_of(source):
    """The pieces of a program."""
    maker = Generator(source)
    make_all(maker, source.body)
    maker.code("halt", 0, 0, 0)
    return maker.pieces
