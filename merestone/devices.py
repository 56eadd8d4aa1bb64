"""Devices: how an input is written into a ring."""

from merestone.words import add

# The words of a ring that hold inputs, from FIRST on.
FIRST = 2
SLOTS = 14


def write_input(memory, ring, word):
    """Writes an input into the ring that begins at an index of a list of words."""
    count = memory[ring]
    memory[ring + FIRST + count % SLOTS] = word
    memory[ring] = add(count, 1)
