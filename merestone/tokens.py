"""Assembly texts: a line as tokens."""

from merestone.errors import Malformed

LETTERS = "ABCDEFGHIJKLMNOPQRSTUVWXYZabcdefghijklmnopqrstuvwxyz"
DIGITS = "0123456789"
MARKS = ",:+-"
LONGEST_NAME = 24
LONGEST_NUMBER = 5
GREATEST_NUMBER = 65535

# Registers are no names.
REGISTERS = ("r0", "r1", "r2", "r3", "r4", "r5", "r6", "r7")


class Token:
    """A token of a line. Its kind is "name", "register", "number", or a mark itself."""

    def __init__(self, kind, text, column):
        self.kind = kind
        self.text = text
        self.column = column
        self.behind = column + len(text)


def run_end(text, start, characters):
    """The index behind the characters of a kind that stand together from an index on."""
    end = start
    while end < len(text) and text[end] in characters:
        end += 1
    return end


def name_token(text, start, line):
    """The name or register that begins at an index."""
    word = text[start:run_end(text, start, LETTERS + DIGITS + "_")]
    if len(word) > LONGEST_NAME:
        raise Malformed(line, start + 1)
    if word in REGISTERS:
        return Token("register", word, start + 1)
    return Token("name", word, start + 1)


def is_number(digits):
    """True if digits are a number as it must be written."""
    if digits == "0":
        return True
    # The length comes first: Python refuses to read thousands of digits.
    return digits[0] != "0" and len(digits) <= LONGEST_NUMBER and int(digits) <= GREATEST_NUMBER


def number_token(text, start, line):
    """The number that begins at an index."""
    end = run_end(text, start, DIGITS)
    digits = text[start:end]
    if run_end(text, end, LETTERS + "_") > end or not is_number(digits):
        raise Malformed(line, start + 1)
    return Token("number", digits, start + 1)


def token_at(text, start, line):
    """The token that begins at an index."""
    first = text[start]
    if first in LETTERS:
        return name_token(text, start, line)
    if first in DIGITS:
        return number_token(text, start, line)
    if first in MARKS:
        return Token(first, first, start + 1)
    raise Malformed(line, start + 1)


def tokens_of(text, line):
    """The list of the tokens of a line."""
    found = []
    at = 0
    while at < len(text) and text[at] != ";":
        if text[at] == " ":
            at += 1
        else:
            token = token_at(text, at, line)
            found.append(token)
            at += len(token.text)
    return found
