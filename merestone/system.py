"""The machine with its kernel: how it is begun, run and watched, and what it has done."""

from merestone.config import PAGE, frame_start
from merestone.kernelcode import channel_of, kernel_of, layout_of, partition_at, record_of
from merestone.kerneltext import NAMED
from merestone.machine import ALARM, BROKEN, MAP, USER, Machine
from merestone.words import wrap

# The slots of a channel.
SLOTS = 8


def rings_of(config):
    """The indexes at which the rings of the devices begin."""
    layout = layout_of(config)
    return [layout.page(0, "device", index) * PAGE for index in range(len(config.devices))]


def booted(config, inputs):
    """The machine of a configuration at its first tick."""
    return Machine(kernel_of(config), rings_of(config), inputs)


def run_frames(machine, config, count):
    """Lets a machine run up to one tick before a frame begins."""
    machine.run(frame_start(config, count) - 1 - machine.tick)


def page_words(machine, config, p, kind, index):
    """The words of a page that a partition sees."""
    start = layout_of(config).page(p, kind, index) * PAGE
    return tuple(machine.memory[start:start + PAGE])


def partition_state(machine, config, p):
    """The registers, the place, the end or None, and the own pages of a partition, as the plain system tells them."""
    record = record_of(p)
    words = machine.memory[record:record + NAMED["PARTITION_WORDS"]]
    end = None
    if words[NAMED["ENDED"]] != 0:
        end = (words[NAMED["CAUSE"]], words[NAMED["VALUE"]])
    own = [page_words(machine, config, p, "own", index) for index in range(config.partitions[p].pages)]
    return (tuple(words[:8]), words[NAMED["PLACE"]], end, tuple(own))


def channel_state(machine, index):
    """The words in a channel, the first one first."""
    start = channel_of(index)
    words = machine.memory[start:start + NAMED["CHANNEL_WORDS"]]
    slots = [(words[NAMED["FIRST"]] + k) % SLOTS for k in range(words[NAMED["LENGTH"]])]
    return tuple([words[NAMED["SLOTS"] + slot] for slot in slots])


def rest_state(machine, config):
    """The shared pages, the pages of the devices, and the words in the channels, as the plain system tells them."""
    shares = [page_words(machine, config, 0, "share", index) for index in range(len(config.shares))]
    devices = [page_words(machine, config, 0, "device", index) for index in range(len(config.devices))]
    channels = [channel_state(machine, index) for index in range(len(config.channels))]
    return (tuple(shares), tuple(devices), tuple(channels))


class Watcher:
    """A machine that is watched from now on."""

    def __init__(self, machine, config):
        self.machine = machine
        self.traces = [[] for _ in config.partitions]

    def watch(self):
        """Notes the instruction that a partition begins in this tick, if there is one."""
        machine = self.machine
        if machine.mode == USER and wrap(machine.tick) != machine.specials[ALARM]:
            trace = self.traces[partition_at(machine.specials[MAP])]
            trace.append((machine.tick, machine.pc, tuple(machine.user)))

    def run(self, tick):
        """Lets the machine run until a tick."""
        while self.machine.tick < tick and self.machine.mode != BROKEN:
            self.watch()
            self.machine.step()
