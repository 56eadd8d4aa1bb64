"""Systems as they are between two frames: taken from plain systems and machines, and made such again."""

from merestone.cells import first_pages
from merestone.config import GAP, PAGE
from merestone.devices import write_input
from merestone.kernelcode import channel_of, kernel_of, layout_of, record_of
from merestone.kerneltext import NAMED
from merestone.machine import TICKS, Machine
from merestone.plain import Plain, as_tuples
from merestone.system import partition_state, rest_state, rings_of
from merestone.words import wrap


class Snapshot:
    """A system: the tick at which its next frame begins, the index and the number of this frame, and all contents.

    States and rest are what the plain system tells of its partitions and of all else.
    """

    def __init__(self, config, begin, index, number, states, rest):
        self.config = config
        self.begin = begin
        self.index = index
        self.number = number
        self.states = states
        self.others = rest


def first_state(partition):
    """The state of a partition at the beginning."""
    return ((0,) * 8, partition.start, None, as_tuples(first_pages(partition)))


def devices_later(plain, limit):
    """The pages of the devices of a plain system, with the inputs that come before a tick."""
    pages = [list(words) for words in plain.devices]
    for tick, device, word in plain.inputs[plain.given:]:
        if tick < limit:
            write_input(pages[device], 0, word)
    return as_tuples(pages)


def snapshot_of_plain(plain):
    """A plain system at the tick before its next frame begins."""
    states = [plain.state(p) for p in range(len(plain.cells))]
    shares, _, channels = plain.rest()
    rest = (shares, devices_later(plain, plain.begin - 1), channels)
    index = plain.number % len(plain.config.frames)
    return Snapshot(plain.config, plain.begin, index, wrap(plain.number + plain.ahead), states, rest)


def variable(machine, name):
    """One of the kernel's variables."""
    return machine.memory[NAMED["VARIABLES"] + NAMED[name]]


def states_of_machine(machine, config):
    """The states of all partitions of a machine."""
    return [partition_state(machine, config, p) for p in range(len(config.partitions))]


def snapshot_of_machine(machine, config):
    """A machine at the tick before a frame begins."""
    index = (variable(machine, "FRAME") - NAMED["FRAMES"]) // NAMED["FRAME_WORDS"]
    states = states_of_machine(machine, config)
    rest = rest_state(machine, config)
    return Snapshot(config, machine.tick + 1, index, variable(machine, "NUMBER"), states, rest)


def last_end(machine):
    """The tick at which the last frame of a machine has ended."""
    return machine.tick - wrap(machine.tick - variable(machine, "LAST"))


def as_lists(rows):
    """A tuple of tuples as a list of lists."""
    return [list(row) for row in rows]


def plain_of(snapshot, inputs):
    """The plain system of a snapshot."""
    plain = Plain(snapshot.config, inputs)
    plain.number = snapshot.index
    plain.ahead = snapshot.number - snapshot.index
    plain.begin = snapshot.begin
    plain.tick = snapshot.begin - GAP
    for cell, (registers, place, end, own) in zip(plain.cells, snapshot.states):
        cell.registers = list(registers)
        cell.pc = place
        cell.end = end
        cell.own = as_lists(own)
    shares, devices, channels = snapshot.others
    plain.shares = as_lists(shares)
    plain.devices = as_lists(devices)
    plain.channels = as_lists(channels)
    return plain


def put(memory, start, words):
    """Writes words into a memory, from an index on."""
    memory[start:start + len(words)] = list(words)


def put_variables(memory, snapshot, last):
    """Writes what tells the kernel which frame comes next, and when the last one has ended."""
    values = {
        "FRAME": NAMED["FRAMES"] + snapshot.index * NAMED["FRAME_WORDS"],
        "NUMBER": snapshot.number,
        "BEGIN": wrap(snapshot.begin),
        "LAST": wrap(last),
    }
    for name in values:
        memory[NAMED["VARIABLES"] + NAMED[name]] = values[name]


def put_record(memory, p, state):
    """Writes the record of a partition."""
    registers, place, end, _ = state
    ended = [0, 0, 0]
    if end is not None:
        ended = [1, end[0], end[1]]
    put(memory, record_of(p), list(registers) + [place] + ended)


def put_channel(memory, index, words):
    """Writes the words of a channel."""
    start = channel_of(index)
    memory[start + NAMED["LENGTH"]] = len(words)
    put(memory, start + NAMED["SLOTS"], words)


def memory_of(snapshot, last):
    """The memory of a machine from which the kernel goes on as if its last frame had ended at a tick."""
    memory = kernel_of(snapshot.config)
    layout = layout_of(snapshot.config)
    put_variables(memory, snapshot, last)
    for p, state in enumerate(snapshot.states):
        put_record(memory, p, state)
        for index, words in enumerate(state[3]):
            put(memory, layout.page(p, "own", index) * PAGE, words)
    shares, devices, channels = snapshot.others
    for index, words in enumerate(shares):
        put(memory, layout.page(0, "share", index) * PAGE, words)
    for index, words in enumerate(devices):
        put(memory, layout.page(0, "device", index) * PAGE, words)
    for index, words in enumerate(channels):
        put_channel(memory, index, words)
    return memory


def machine_of(snapshot, last, tick, inputs):
    """The machine of a snapshot at a tick behind the end of its last frame and before the next one begins."""
    machine = Machine(memory_of(snapshot, last), rings_of(snapshot.config), [])
    # The kernel needs some ticks before it waits for the frame, so it may have to begin earlier.
    machine.tick = min(tick, snapshot.begin - GAP)
    machine.specials[TICKS] = wrap(machine.tick)
    machine.run(tick - machine.tick)
    # What has come up to now stands in the pages of the devices, so the inputs are told only here.
    machine.inputs = list(inputs)
    return machine
