"""Programs of partitions as texts: a text as words."""

from merestone.errors import Malformed
from merestone.tokens import DIGITS, LETTERS, is_number, run_end

KEYWORDS = ("var", "table", "page", "if", "else", "while", "send", "receive", "frame", "into", "rest", "stop")
TWO_SIGNS = (":=", "==", "!=", "<<", ">>")
ONE_SIGNS = "=<+-*&|^~()[]{},"
LONGEST_NAME = 16

# The kind of what comes behind the last word.
END = "end"


class Word:
    """A word of a text. Its kind is "name", "number", or a keyword or sign itself."""

    def __init__(self, kind, text, line, column):
        self.kind = kind
        self.text = text
        self.line = line
        self.column = column


def kind_of(text):
    """The kind of letters, digits and lines that stand together; the empty text if they are no word."""
    if text in KEYWORDS:
        return text
    if text[0] in LETTERS and len(text) <= LONGEST_NAME:
        return "name"
    if run_end(text, 0, DIGITS) == len(text) and is_number(text):
        return "number"
    return ""


def sign_at(text, start):
    """The sign that begins at an index, or the empty text."""
    if text[start:start + 2] in TWO_SIGNS:
        return text[start:start + 2]
    if text[start] in ONE_SIGNS:
        return text[start]
    return ""


def word_at(text, start, line):
    """The word that begins at an index of a line."""
    together = text[start:run_end(text, start, LETTERS + DIGITS + "_")]
    if together == "":
        together = sign_at(text, start)
        kind = together
    else:
        kind = kind_of(together)
    if kind == "":
        raise Malformed(line, start + 1)
    return Word(kind, together, line, start + 1)


def words_of_line(text, line):
    """The words of a line."""
    found = []
    at = 0
    while at < len(text) and text[at] != "#":
        if text[at] == " ":
            at += 1
        else:
            word = word_at(text, at, line)
            found.append(word)
            at += len(word.text)
    return found


def scan(text):
    """The words of a text, and behind them a word of the kind END at the end of the text."""
    found = []
    lines = text.split("\n")
    for index, each in enumerate(lines):
        found.extend(words_of_line(each, index + 1))
    found.append(Word(END, "", len(lines), len(lines[-1]) + 1))
    return found
