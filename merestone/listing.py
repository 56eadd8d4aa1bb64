"""Listings: words as the lines of an assembly text."""

from merestone.codes import decode, size_of
from merestone.statements import BRANCHES, FORMS
from merestone.steps import small
from merestone.words import wrap


def number_shown(parts, address, behind):
    """The number in the line of an instruction, by its address and the list of the word behind it."""
    op, _, _, c = parts
    if op == "set":
        return behind[0]
    if op in BRANCHES:
        return wrap(address + c - 7)
    if op == "addi":
        return small(c)
    return c


def operands_shown(parts, number):
    """The operands of an instruction, as texts."""
    fields = parts[1:]
    found = []
    for index, form in enumerate(FORMS[parts[0]]):
        if form == "R":
            found.append(f"r{fields[index]}")
        else:
            found.append(str(number))
    return found


def instruction_line(parts, address, behind):
    """The line of an instruction."""
    op = parts[0]
    shown = ", ".join(operands_shown(parts, number_shown(parts, address, behind)))
    if shown == "":
        return op
    return f"{op} {shown}"


def listing(words, base=0):
    """The lines of the words that begin at an address."""
    lines = []
    at = 0
    while at < len(words):
        parts = decode(words[at])
        if parts is None or at + size_of(parts[0]) > len(words):
            lines.append(f"word {words[at]}")
            at += 1
        else:
            lines.append(instruction_line(parts, base + at, words[at + 1:at + 2]))
            at += size_of(parts[0])
    return lines
