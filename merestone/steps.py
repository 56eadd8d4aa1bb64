"""One step of a program.

Each function that carries out an instruction takes the tuple of the instruction,
the registers, its place and the view, and returns the place that comes next. What
the view is asked for comes before any register is changed, so that a trap leaves
all registers as they were.
"""

from merestone.codes import KERNEL_ONLY, decode
from merestone.errors import Trap
from merestone.words import add, bit_and, bit_or, bit_xor, mul, shift_left, shift_right, sub

ILLEGAL = 1
ADDRESS = 2
CALLED = 3
HALTED = 5


class View:
    """A view that allows no address; a view of a memory derives from it."""

    def fetch(self, address):
        """The word of an instruction at an address."""
        raise Trap(ADDRESS, address)

    def load(self, address):
        """The content of an address."""
        raise Trap(ADDRESS, address)

    def store(self, address, word):
        """Makes a word the content of an address."""
        raise Trap(ADDRESS, address)


def halt(parts, registers, pc, view):
    """Stops the program."""
    raise Trap(HALTED, 0)


def call(parts, registers, pc, view):
    """Calls the kernel with a number."""
    raise Trap(CALLED, parts[3])


def set_word(parts, registers, pc, view):
    """A register becomes the next word."""
    registers[parts[1]] = view.fetch(add(pc, 1))
    return add(pc, 2)


def copy_word(parts, registers, pc, view):
    """A register becomes another one."""
    a, b = parts[1:3]
    registers[a] = registers[b]
    return add(pc, 1)


def calculated(op, first, second):
    """What an op makes of two words."""
    if op == "add":
        return add(first, second)
    if op == "sub":
        return sub(first, second)
    if op == "mul":
        return mul(first, second)
    if op == "and":
        return bit_and(first, second)
    if op == "or":
        return bit_or(first, second)
    return bit_xor(first, second)


def calculate(parts, registers, pc, view):
    """A register becomes what an op makes of two registers."""
    op, a, b, c = parts
    registers[a] = calculated(op, registers[b], registers[c])
    return add(pc, 1)


def shift_word_left(parts, registers, pc, view):
    """A register becomes another one, shifted to the left."""
    _, a, b, c = parts
    registers[a] = shift_left(registers[b], c)
    return add(pc, 1)


def shift_word_right(parts, registers, pc, view):
    """A register becomes another one, shifted to the right."""
    _, a, b, c = parts
    registers[a] = shift_right(registers[b], c)
    return add(pc, 1)


def small(c):
    """The integer from -8 to 7 that the field c of addi stands for."""
    if c < 8:
        return c
    return c - 16


def add_small(parts, registers, pc, view):
    """A register becomes the sum of another one and a small number."""
    _, a, b, c = parts
    registers[a] = add(registers[b], small(c))
    return add(pc, 1)


def load_word(parts, registers, pc, view):
    """A register becomes the content of an address."""
    _, a, b, c = parts
    registers[a] = view.load(add(registers[b], c))
    return add(pc, 1)


def store_word(parts, registers, pc, view):
    """The content of an address becomes a register."""
    _, a, b, c = parts
    view.store(add(registers[b], c), registers[a])
    return add(pc, 1)


def jump(parts, registers, pc, view):
    """Goes on at the place in a register."""
    return registers[parts[1]]


def jump_and_link(parts, registers, pc, view):
    """Goes on at the place in a register, and keeps the place behind."""
    a, b = parts[1:3]
    # Both registers may be the same one: the place must be read first.
    place = registers[b]
    registers[a] = add(pc, 1)
    return place


def holds(op, first, second):
    """True if the condition of a branch holds for two words."""
    if op == "beq":
        return first == second
    if op == "bne":
        return first != second
    return first < second


def branch(parts, registers, pc, view):
    """Goes on nearby if a condition holds for two registers."""
    op, a, b, c = parts
    behind = add(pc, 1)
    if holds(op, registers[a], registers[b]):
        return add(behind, c - 8)
    return behind


ACTIONS = {
    "halt": halt,
    "set": set_word,
    "copy": copy_word,
    "add": calculate,
    "sub": calculate,
    "mul": calculate,
    "and": calculate,
    "or": calculate,
    "xor": calculate,
    "shl": shift_word_left,
    "shr": shift_word_right,
    "addi": add_small,
    "load": load_word,
    "store": store_word,
    "jump": jump,
    "jal": jump_and_link,
    "beq": branch,
    "bne": branch,
    "blt": branch,
    "call": call,
}


def carry_out(parts, registers, pc, view):
    """Carries out an instruction of user mode that has been fetched and decoded."""
    action = ACTIONS[parts[0]]
    return action(parts, registers, pc, view)


def user_step(registers, pc, view):
    """Carries out one step in user mode; returns the place that comes next."""
    parts = decode(view.fetch(pc))
    if parts is None or parts[0] in KERNEL_ONLY:
        raise Trap(ILLEGAL, 0)
    return carry_out(parts, registers, pc, view)
