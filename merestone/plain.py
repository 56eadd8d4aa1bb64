"""The plain system: what a configuration means, without a machine and a kernel."""

from merestone.cells import Cell, CellView, empty_pages
from merestone.config import CALL, GAP, page_map
from merestone.devices import write_input
from merestone.errors import Trap
from merestone.steps import CALLED, user_step
from merestone.words import add, wrap

# The numbers of the calls.
REST = 0
SEND = 1
RECEIVE = 2
FRAME = 3


def as_tuples(rows):
    """A list of lists as a tuple of tuples."""
    return tuple([tuple(row) for row in rows])


class Plain:
    """A system before its first gap."""

    def __init__(self, config, inputs):
        self.config = config
        self.number = 0
        self.tick = 0
        # When the next frame begins, and by how much its number for the call 3 is greater than `number`.
        self.begin = GAP
        self.ahead = 0
        self.events = []
        self.inputs = list(inputs)
        self.given = 0
        self.cells = [Cell(partition) for partition in config.partitions]
        self.shares = empty_pages(len(config.shares))
        self.devices = empty_pages(len(config.devices))
        self.channels = [[] for _ in config.channels]

    def write_inputs(self, limit):
        """Writes all inputs that come before a tick."""
        while self.given < len(self.inputs) and self.inputs[self.given][0] < limit:
            _, device, word = self.inputs[self.given]
            write_input(self.devices[device], 0, word)
            self.given += 1

    def words_of_page(self, p, kind, index):
        """The words of a page that a partition sees."""
        if kind == "own":
            return self.cells[p].own[index]
        if kind == "share":
            return self.shares[index]
        return self.devices[index]

    def view_of(self, p):
        """The view of a partition, by which it runs."""
        seen = [(kind, index, rights, self.words_of_page(p, kind, index))
                for kind, index, rights in page_map(self.config, p)]
        return CellView(seen, self.events)

    def channel_at(self, p, number, side):
        """The words in a channel of which a partition is the source (side 0) or the target (1), or None."""
        if number >= len(self.channels) or self.config.channels[number][side] != p:
            return None
        return self.channels[number]

    def send(self, p, tick):
        """Sends a word; returns what the register 0 becomes."""
        number, word = self.cells[p].registers[:2]
        words = self.channel_at(p, number, 0)
        if words is None:
            return 0
        self.events.append(("send", tick, number, word))
        _, _, capacity, told = self.config.channels[number]
        if len(words) < capacity:
            words.append(word)
            return 1
        return 0 if told else 1

    def receive(self, p, tick):
        """Receives a word into the register 1; returns what the register 0 becomes."""
        registers = self.cells[p].registers
        number = registers[0]
        words = self.channel_at(p, number, 1)
        if words is None or len(words) == 0:
            return 0
        self.events.append(("take", tick, number))
        registers[1] = words.pop(0)
        return 1

    def answer(self, p, call, tick):
        """Serves one of the calls 1 to 3; returns what the register 0 becomes."""
        if call == SEND:
            return self.send(p, tick)
        if call == RECEIVE:
            return self.receive(p, tick)
        return wrap(self.number + self.ahead)

    def serve(self, p, call, tick, end):
        """What becomes of a call; returns the tick of the next instruction."""
        cell = self.cells[p]
        if tick + CALL > end:
            return end
        if call > FRAME:
            cell.end = (CALLED, call)
            return end
        cell.pc = add(cell.pc, 1)
        if call == REST:
            return end
        cell.registers[0] = self.answer(p, call, tick)
        return tick + CALL

    def carry_out_one(self, p, view, tick, end):
        """Carries out one instruction of a partition; returns the tick of the next one."""
        cell = self.cells[p]
        cell.begun.append((tick, cell.pc, tuple(cell.registers)))
        view.now = tick
        try:
            cell.pc = user_step(cell.registers, cell.pc, view)
        except Trap as caught:
            if caught.cause == CALLED:
                return self.serve(p, caught.value, tick, end)
            cell.end = (caught.cause, caught.value)
        return tick + 1

    def run_partition(self, p, begin, end):
        """Lets a partition run in a frame."""
        view = self.view_of(p)
        tick = begin
        while tick < end and self.cells[p].end is None:
            self.write_inputs(tick + 1)
            tick = self.carry_out_one(p, view, tick, end)

    def run_frame(self):
        """Runs the next gap and the next frame."""
        p, ticks = self.config.frames[self.number % len(self.config.frames)]
        end = self.begin + ticks
        if p is not None:
            self.run_partition(p, self.begin, end)
        self.write_inputs(end)
        self.number += 1
        self.tick = end
        self.begin = end + GAP

    def state(self, p):
        """The registers, the place, the end or None, and the own pages of a partition."""
        cell = self.cells[p]
        return (tuple(cell.registers), cell.pc, cell.end, as_tuples(cell.own))

    def rest(self):
        """The shared pages, the pages of the devices, and the words in the channels."""
        return (as_tuples(self.shares), as_tuples(self.devices), as_tuples(self.channels))

    def trace(self, p):
        """The instructions that a partition has begun."""
        return list(self.cells[p].begun)


def run_plain(config, inputs, count):
    """The system behind so many frames."""
    plain = Plain(config, inputs)
    for _ in range(count):
        plain.run_frame()
    return plain
