"""Partitions of the plain system: what each one has, and how it sees its pages."""

from merestone.config import EXECUTE, PAGE, READ, WRITE
from merestone.errors import Trap
from merestone.steps import ADDRESS, View


def empty_pages(many):
    """So many pages that hold 0."""
    return [[0] * PAGE for _ in range(many)]


def first_pages(partition):
    """The own pages of a partition at first: its image, then 0."""
    words = list(partition.image) + [0] * (partition.pages * PAGE - len(partition.image))
    return [words[at:at + PAGE] for at in range(0, len(words), PAGE)]


class Cell:
    """A partition as it runs: its registers, place, end or None, own pages, and what it has begun."""

    def __init__(self, partition):
        self.registers = [0] * 8
        self.pc = partition.start
        self.end = None
        self.own = first_pages(partition)
        self.begun = []


class CellView(View):
    """The pages that a partition sees, as tuples (kind, index, rights, words).

    What is written to shared pages is noted in a list of events, with the tick that it is now.
    """

    def __init__(self, seen, events):
        self.seen = seen
        self.events = events
        self.now = 0

    def page_at(self, address, right):
        """The page of an address, if the partition has the right."""
        number = address // PAGE
        if number >= len(self.seen) or (self.seen[number][2] & right) == 0:
            raise Trap(ADDRESS, address)
        return self.seen[number]

    def fetch(self, address):
        """The word of an instruction at an address."""
        return self.page_at(address, EXECUTE)[3][address % PAGE]

    def load(self, address):
        """The content of an address."""
        return self.page_at(address, READ)[3][address % PAGE]

    def store(self, address, word):
        """Makes a word the content of an address."""
        kind, index, _, words = self.page_at(address, WRITE)
        words[address % PAGE] = word
        if kind == "share":
            self.events.append(("write", self.now, index, address % PAGE, word))
