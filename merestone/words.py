"""Words: integers from 0 to 65535, and what is worked out with them."""

WORDS = 65536
NEGATIVE = 32768


def is_word(number):
    """True if the integer is a word."""
    return 0 <= number < WORDS


def wrap(number):
    """The word that an integer becomes."""
    return number % WORDS


def signed(word):
    """The integer that a word stands for as a signed number."""
    if word < NEGATIVE:
        return word
    return word - WORDS


def add(first, second):
    """The sum of two words, a word."""
    return wrap(first + second)


def sub(first, second):
    """The difference of two words, a word."""
    return wrap(first - second)


def mul(first, second):
    """The product of two words, a word."""
    return wrap(first * second)


def bit_and(first, second):
    """The bits that both words have."""
    return first & second


def bit_or(first, second):
    """The bits that at least one of two words has."""
    return first | second


def bit_xor(first, second):
    """The bits that exactly one of two words has."""
    return first ^ second


def shift_left(word, count):
    """A word shifted to the left by 0 to 15 bits."""
    return wrap(word << count)


def shift_right(word, count):
    """A word shifted to the right by 0 to 15 bits."""
    return word >> count
