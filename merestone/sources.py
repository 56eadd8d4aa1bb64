"""Programs of partitions: what a text means as a Source."""

from merestone.errors import Malformed, TooLarge
from merestone.scanning import END, scan

SIZES = (1, 2, 4, 8, 16, 32, 64)
LARGEST_PAGE = 16
LAST_ADDRESS = 127
GREATEST = 65535
LONGEST_SHIFT = 15

# How many names a program declares, and how many words are open, at most.
MOST_NAMES = 64
DEEPEST = 20

COMPARISONS = ("==", "!=", "<")
SUMS = ("+", "-", "|", "^")
PRODUCTS = ("*", "&")
SHIFTS = ("<<", ">>")


def are_rows(first, second):
    """True if two values are both lists, or both tuples."""
    if isinstance(first, list):
        return isinstance(second, list)
    return isinstance(first, tuple) and isinstance(second, tuple)


def same_trees(first, second):
    """True if two values, of lists and tuples in one another, are equal."""
    # Python compares such values by recursion, for which a long sum is too deep.
    waiting = [(first, second)]
    while len(waiting) > 0:
        one, other = waiting.pop()
        if are_rows(one, other):
            if len(one) != len(other):
                return False
            waiting.extend(list(zip(one, other)))
        elif one != other:
            return False
    return True


class Source:
    """A program: the tuples of its names, and the list of its statements."""

    def __init__(self, names, body):
        self.names = list(names)
        self.body = list(body)

    def __eq__(self, other):
        return isinstance(other, Source) and same_trees((self.names, self.body), (other.names, other.body))


class Parser:
    """Goes through the words of a text, and knows the names that are declared."""

    def __init__(self, words):
        self.words = words
        self.at = 0
        self.names = []
        self.kinds = {}
        self.opened = 0

    def peek(self):
        """The kind of the next word."""
        return self.words[self.at].kind

    def refuse(self, word):
        """A word does not fit where it stands."""
        raise Malformed(word.line, word.column)

    def take(self, kind):
        """The next word, which must be of this kind."""
        word = self.words[self.at]
        if word.kind != kind:
            self.refuse(word)
        self.at += 1
        return word

    def take_number(self, least, greatest):
        """The number that comes next, which must be within bounds."""
        word = self.take("number")
        number = int(word.text)
        if not least <= number <= greatest:
            self.refuse(word)
        return number

    def take_size(self, greatest):
        """The size that comes next."""
        word = self.take("number")
        size = int(word.text)
        if size not in SIZES or size > greatest:
            self.refuse(word)
        return size

    def take_declared(self):
        """The name that comes next, which must be declared."""
        word = self.take("name")
        if word.text not in self.kinds:
            self.refuse(word)
        return word.text

    def take_variable(self):
        """The name that comes next, which must be that of a variable."""
        word = self.take("name")
        if self.kinds.get(word.text) != "var":
            self.refuse(word)
        return word.text

    def declare(self, kind):
        """The name that comes next, which is declared by it."""
        word = self.take("name")
        if word.text in self.kinds:
            self.refuse(word)
        self.kinds[word.text] = kind
        if len(self.kinds) > MOST_NAMES:
            raise TooLarge("names")
        return word.text

    def enter(self, kind):
        """A word that is open from now on."""
        self.take(kind)
        self.opened += 1
        if self.opened > DEEPEST:
            raise TooLarge("depth")

    def leave(self):
        """The last word that is open is open no longer."""
        self.opened -= 1


def read_var(parser):
    """What stands behind `var`."""
    name = parser.declare("var")
    word = 0
    if parser.peek() == "=":
        parser.take("=")
        word = parser.take_number(0, GREATEST)
    return ("var", name, word)


def read_first_words(parser, size):
    """The first words of a table, of which there are at most so many."""
    words = []
    if parser.peek() == "=":
        parser.take("=")
        words.append(parser.take_number(0, GREATEST))
        while parser.peek() == "," and len(words) < size:
            parser.take(",")
            words.append(parser.take_number(0, GREATEST))
    return tuple(words)


def read_table(parser):
    """What stands behind `table`."""
    name = parser.declare("table")
    size = parser.take_size(SIZES[-1])
    return ("table", name, size, read_first_words(parser, size))


def read_page(parser):
    """What stands behind `page`."""
    name = parser.declare("page")
    address = parser.take_number(0, LAST_ADDRESS)
    size = parser.take_size(min(LARGEST_PAGE, LAST_ADDRESS + 1 - address))
    return ("page", name, address, size)


def read_index(parser):
    """An index in its brackets."""
    parser.enter("[")
    index = read_expression(parser)
    parser.take("]")
    parser.leave()
    return index


def read_named(parser):
    """A variable, or an item of a table or page, in an expression."""
    name = parser.take_declared()
    if parser.kinds[name] == "var":
        return ("name", name)
    return ("item", name, read_index(parser))


def read_parenthesis(parser):
    """An expression in parentheses."""
    parser.enter("(")
    inner = read_expression(parser)
    parser.take(")")
    parser.leave()
    return inner


def read_inverted(parser):
    """A factor behind `~`."""
    parser.enter("~")
    inner = read_factor(parser)
    parser.leave()
    return ("not", inner)


def read_factor(parser):
    """A factor."""
    kind = parser.peek()
    if kind == "name":
        return read_named(parser)
    if kind == "(":
        return read_parenthesis(parser)
    if kind == "~":
        return read_inverted(parser)
    return ("number", parser.take_number(0, GREATEST))


def read_term(parser):
    """Factors, and shifts, one behind the other."""
    found = read_factor(parser)
    while parser.peek() in PRODUCTS + SHIFTS:
        sign = parser.take(parser.peek()).text
        if sign in SHIFTS:
            found = ("shift", sign, found, parser.take_number(0, LONGEST_SHIFT))
        else:
            found = ("op", sign, found, read_factor(parser))
    return found


def read_total(parser):
    """Terms one behind the other."""
    found = read_term(parser)
    while parser.peek() in SUMS:
        sign = parser.take(parser.peek()).text
        found = ("op", sign, found, read_term(parser))
    return found


def read_expression(parser):
    """A total, or the comparison of two."""
    found = read_total(parser)
    if parser.peek() in COMPARISONS:
        sign = parser.take(parser.peek()).text
        found = ("op", sign, found, read_total(parser))
    return found


def read_assignment(parser):
    """A statement that begins with a name."""
    name = parser.take_declared()
    if parser.kinds[name] == "var":
        parser.take(":=")
        return ("set", name, read_expression(parser))
    index = read_index(parser)
    parser.take(":=")
    return ("put", name, index, read_expression(parser))


def read_block(parser):
    """Statements in braces."""
    parser.enter("{")
    found = []
    while parser.peek() != "}":
        found.append(read_statement(parser))
    parser.take("}")
    parser.leave()
    return found


def read_if(parser):
    """The statement `if`."""
    parser.take("if")
    condition = read_expression(parser)
    first = read_block(parser)
    second = []
    if parser.peek() == "else":
        parser.take("else")
        second = read_block(parser)
    return ("if", condition, first, second)


def read_while(parser):
    """The statement `while`."""
    parser.take("while")
    condition = read_expression(parser)
    return ("while", condition, read_block(parser))


def read_send(parser):
    """The statement `send`."""
    parser.take("send")
    channel = parser.take_number(0, GREATEST)
    parser.take(",")
    word = read_expression(parser)
    name = ""
    if parser.peek() == "into":
        parser.take("into")
        name = parser.take_variable()
    return ("send", channel, word, name)


def read_receive(parser):
    """The statement `receive`."""
    parser.take("receive")
    channel = parser.take_number(0, GREATEST)
    parser.take("into")
    told = parser.take_variable()
    parser.take(",")
    return ("receive", channel, told, parser.take_variable())


def read_frame(parser):
    """The statement `frame`."""
    parser.take("frame")
    parser.take("into")
    return ("frame", parser.take_variable())


def read_rest(parser):
    """The statement `rest`."""
    return (parser.take("rest").text,)


def read_stop(parser):
    """The statement `stop`."""
    return (parser.take("stop").text,)


DECLARATIONS = {"var": read_var, "table": read_table, "page": read_page}

STATEMENTS = {
    "name": read_assignment,
    "if": read_if,
    "while": read_while,
    "send": read_send,
    "receive": read_receive,
    "frame": read_frame,
    "rest": read_rest,
    "stop": read_stop,
}


def read_declaration(parser):
    """A declaration."""
    action = DECLARATIONS[parser.take(parser.peek()).kind]
    return action(parser)


def read_statement(parser):
    """A statement."""
    if parser.peek() not in STATEMENTS:
        parser.refuse(parser.words[parser.at])
    action = STATEMENTS[parser.peek()]
    return action(parser)


def parse_source(text):
    """The Source of a text."""
    parser = Parser(scan(text))
    names = []
    while parser.peek() in DECLARATIONS:
        names.append(read_declaration(parser))
    body = []
    while parser.peek() != END:
        body.append(read_statement(parser))
    return Source(names, body)
