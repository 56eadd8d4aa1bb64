"""Instructions as words: the table of the ops, from words and to words."""

from merestone.errors import BadCode

OPS = (
    "halt", "set", "copy", "add", "sub", "mul", "and", "or", "xor", "shl", "shr", "addi", "load",
    "store", "jump", "jal", "beq", "bne", "blt", "call", "getu", "putu", "gets", "puts", "until", "rest",
)

KERNEL_ONLY = ("getu", "putu", "gets", "puts", "until", "rest")

# The greatest values of the fields a, b and c: 0 for a field that the op does not name.
GREATEST = {
    "halt": (0, 0, 0),
    "set": (7, 0, 0),
    "copy": (7, 7, 0),
    "add": (7, 7, 7),
    "sub": (7, 7, 7),
    "mul": (7, 7, 7),
    "and": (7, 7, 7),
    "or": (7, 7, 7),
    "xor": (7, 7, 7),
    "shl": (7, 7, 15),
    "shr": (7, 7, 15),
    "addi": (7, 7, 15),
    "load": (7, 7, 15),
    "store": (7, 7, 15),
    "jump": (7, 0, 0),
    "jal": (7, 7, 0),
    "beq": (7, 7, 15),
    "bne": (7, 7, 15),
    "blt": (7, 7, 15),
    "call": (0, 0, 15),
    "getu": (7, 7, 0),
    "putu": (7, 7, 0),
    "gets": (7, 0, 6),
    "puts": (7, 0, 4),
    "until": (0, 0, 0),
    "rest": (0, 0, 0),
}


def fields_fit(op, a, b, c):
    """True if an op may have these fields."""
    most_a, most_b, most_c = GREATEST[op]
    return 0 <= a <= most_a and 0 <= b <= most_b and 0 <= c <= most_c


def encode(op, a, b, c):
    """The word of an instruction."""
    if op not in OPS or not fields_fit(op, a, b, c):
        raise BadCode(op, a, b, c)
    return OPS.index(op) * 1024 + a * 128 + b * 16 + c


def decode(word):
    """The tuple (op, a, b, c) of a word, or None if it is illegal."""
    number = word // 1024
    # A negative index would read the table from its end.
    if not 0 <= number < len(OPS):
        return None
    op = OPS[number]
    a, b, c = word // 128 % 8, word // 16 % 8, word % 16
    if not fields_fit(op, a, b, c):
        return None
    return (op, a, b, c)


def size_of(op):
    """How many words an instruction takes."""
    if op == "set":
        return 2
    return 1
