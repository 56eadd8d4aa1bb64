"""Assembly texts: the tokens of a line as a label and a statement."""

from merestone.errors import Malformed
from merestone.tokens import tokens_of

# The operands of each statement: R a register, E an expression, N a name. Those of `word` go on as it likes.
FORMS = {
    "halt": "",
    "until": "",
    "rest": "",
    "set": "RE",
    "copy": "RR",
    "jal": "RR",
    "getu": "RR",
    "putu": "RR",
    "add": "RRR",
    "sub": "RRR",
    "mul": "RRR",
    "and": "RRR",
    "or": "RRR",
    "xor": "RRR",
    "shl": "RRE",
    "shr": "RRE",
    "load": "RRE",
    "store": "RRE",
    "addi": "RRE",
    "beq": "RRE",
    "bne": "RRE",
    "blt": "RRE",
    "jump": "R",
    "call": "E",
    "gets": "RE",
    "puts": "RE",
    "word": "E",
    "space": "E",
    "page": "",
    "equ": "NE",
}

BRANCHES = ("beq", "bne", "blt")


class Expression:
    """Tokens that are added up: pairs (1 or -1, token), and the column at which they begin."""

    def __init__(self, column, terms):
        self.column = column
        self.terms = terms


class Statement:
    """A line: its number, its label (a token, or None), its op and the operands of it.

    Without an op or directive, the op is the empty text. The address and the size are told
    when the text is laid out.
    """

    def __init__(self, line, label):
        self.line = line
        self.label = label
        self.op = ""
        self.registers = []
        self.name = None
        self.expressions = []
        self.address = 0
        self.size = 0


class Reader:
    """Goes through the tokens of a line."""

    def __init__(self, tokens, line):
        self.tokens = tokens
        self.line = line
        self.at = 0

    def peek(self, ahead=0):
        """The kind of the next token or of one behind it; the empty text behind the last one."""
        if self.at + ahead < len(self.tokens):
            return self.tokens[self.at + ahead].kind
        return ""

    def where(self):
        """The column of the next token, or the one behind the last one."""
        if self.at < len(self.tokens):
            return self.tokens[self.at].column
        return self.tokens[-1].behind

    def take(self, kinds):
        """The next token, which must be of one of these kinds."""
        if self.peek() not in kinds:
            raise Malformed(self.line, self.where())
        self.at += 1
        return self.tokens[self.at - 1]

    def finish(self):
        """No token may be left."""
        if self.at < len(self.tokens):
            raise Malformed(self.line, self.where())


def read_term(reader, sign):
    """A number or a name of an expression, with its sign."""
    return (sign, reader.take(("number", "name")))


def read_expression(reader):
    """An expression, as far as it goes."""
    column = reader.where()
    sign = 1
    if reader.peek() == "-":
        reader.take(("-",))
        sign = -1
    terms = [read_term(reader, sign)]
    while reader.peek() in ("+", "-"):
        if reader.take(("+", "-")).kind == "+":
            terms.append(read_term(reader, 1))
        else:
            terms.append(read_term(reader, -1))
    return Expression(column, terms)


def read_operand(reader, form, statement):
    """One operand, which is R, E or N."""
    if form == "R":
        statement.registers.append(int(reader.take(("register",)).text[1]))
    elif form == "N":
        statement.name = reader.take(("name",))
    else:
        statement.expressions.append(read_expression(reader))


def read_operands(reader, statement):
    """All operands of a statement."""
    for index, form in enumerate(FORMS[statement.op]):
        if index > 0:
            reader.take((",",))
        read_operand(reader, form, statement)
    while statement.op == "word" and reader.peek() == ",":
        reader.take((",",))
        read_operand(reader, "E", statement)


def read_op(reader):
    """The op or directive that begins a statement."""
    if reader.peek() == "name" and reader.tokens[reader.at].text not in FORMS:
        raise Malformed(reader.line, reader.where())
    return reader.take(("name",)).text


def read_line(text, line):
    """A line of a text as a Statement."""
    reader = Reader(tokens_of(text, line), line)
    label = None
    if reader.peek() == "name" and reader.peek(1) == ":":
        label = reader.take(("name",))
        reader.take((":",))
    statement = Statement(line, label)
    if reader.peek() != "":
        statement.op = read_op(reader)
        read_operands(reader, statement)
        reader.finish()
    return statement


def read_lines(text):
    """All lines of a text."""
    return [read_line(each, index + 1) for index, each in enumerate(text.split("\n"))]
