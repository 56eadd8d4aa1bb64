"""Assembly texts: where their words stand, and what these are."""

from merestone.codes import encode, size_of
from merestone.config import PAGE
from merestone.errors import OutOfRange, TooLarge, Twice, Unknown
from merestone.statements import BRANCHES, FORMS, read_lines
from merestone.words import WORDS, wrap

# The least and the greatest value of a word, and of a place that is branched to.
LEAST = -32768
GREATEST = 65535

# The bounds of the expressions that are fields of an instruction.
FIELDS = {
    "shl": (0, 15),
    "shr": (0, 15),
    "load": (0, 15),
    "store": (0, 15),
    "addi": (-8, 7),
    "call": (0, 15),
    "gets": (0, 6),
    "puts": (0, 4),
}


class Assembly:
    """What a text becomes: its words, and the values of its labels and names."""

    def __init__(self, words, names):
        self.words = words
        self.names = names


def term_value(token, names, line):
    """The value of a number or a name."""
    if token.kind == "number":
        return int(token.text)
    if token.text not in names:
        raise Unknown(token.text, line, token.column)
    return names[token.text]


def value_of(expression, names, line, least, greatest):
    """The value of an expression, which must be within bounds."""
    total = sum([sign * term_value(token, names, line) for sign, token in expression.terms])
    if not least <= total <= greatest:
        raise OutOfRange(line, expression.column)
    return total


def define(names, token, value, line):
    """Gives a name its value."""
    if token.text in names:
        raise Twice(token.text, line, token.column)
    names[token.text] = value


def words_taken(statement, names):
    """How many words a statement takes, with its address known."""
    op = statement.op
    if op in ("", "equ"):
        return 0
    if op == "word":
        return len(statement.expressions)
    if op == "page":
        return -statement.address % PAGE
    if op == "space":
        return value_of(statement.expressions[0], names, statement.line, 0, WORDS)
    return size_of(op)


def lay_out(statements, base):
    """Gives each statement its address and size; returns the values of all names."""
    names = {}
    address = base
    for statement in statements:
        line = statement.line
        statement.address = address
        if statement.label is not None:
            define(names, statement.label, address, line)
        if statement.op == "equ":
            value = value_of(statement.expressions[0], names, line, LEAST, GREATEST)
            define(names, statement.name, value, line)
        statement.size = words_taken(statement, names)
        address += statement.size
        if address > WORDS:
            raise TooLarge("words")
    return names


def branch_field(statement, names):
    """The field c of a branch."""
    expression = statement.expressions[0]
    place = value_of(expression, names, statement.line, LEAST, GREATEST)
    field = wrap(place - statement.address + 7)
    if field > 15:
        raise OutOfRange(statement.line, expression.column)
    return field


def field_of(statement, names):
    """The field c of an instruction that has an expression for it."""
    if statement.op in BRANCHES:
        return branch_field(statement, names)
    least, greatest = FIELDS[statement.op]
    return value_of(statement.expressions[0], names, statement.line, least, greatest) % 16


def instruction_words(statement, names):
    """The words of an instruction."""
    op = statement.op
    fields = statement.registers + [0, 0, 0]
    a, b, c = fields[:3]
    if op == "set":
        value = value_of(statement.expressions[0], names, statement.line, LEAST, GREATEST)
        return [encode(op, a, b, c), wrap(value)]
    if "E" in FORMS[op]:
        c = field_of(statement, names)
    return [encode(op, a, b, c)]


def words_of(statement, names):
    """The words of a statement."""
    if statement.op == "word":
        return [wrap(value_of(each, names, statement.line, LEAST, GREATEST)) for each in statement.expressions]
    if statement.op in ("", "equ", "space", "page"):
        return [0] * statement.size
    return instruction_words(statement, names)


def assemble(text, base=0):
    """The Assembly of a text that begins at an address."""
    statements = read_lines(text)
    names = lay_out(statements, base)
    words = []
    for statement in statements:
        words.extend(words_of(statement, names))
    return Assembly(words, names)
