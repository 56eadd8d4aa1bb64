"""The kernel of a configuration: the words of the memory of a machine at its first tick."""

from merestone.assembling import assemble
from merestone.config import CALL, GAP, PAGE, VIRTUAL, page_map
from merestone.kerneltext import CODE, NAMED
from merestone.machine import RIGHTS


def record_of(p):
    """The address of the record of a partition."""
    return NAMED["MAPS"] + p * NAMED["PARTITION_WORDS"] + NAMED["MAP_WORDS"]


def partition_at(record_map):
    """The partition whose map is at an address."""
    return (record_map - NAMED["MAPS"]) // NAMED["PARTITION_WORDS"]


def channel_of(index):
    """The address of a channel."""
    return NAMED["CHANNELS"] + index * NAMED["CHANNEL_WORDS"]


def padded(words, many):
    """A list of words with zeros behind them, so many words in all."""
    assert len(words) <= many
    return words + [0] * (many - len(words))


class Layout:
    """Where the pages stand that partitions see."""

    def __init__(self, config):
        self.own = []
        number = NAMED["KERNEL_WORDS"] // PAGE
        for partition in config.partitions:
            self.own.append(number)
            number += partition.pages
        self.shares = number
        self.devices = number + len(config.shares)
        self.behind = self.devices + len(config.devices)

    def page(self, p, kind, index):
        """The number of the physical page of a page that a partition sees."""
        if kind == "own":
            return self.own[p] + index
        if kind == "share":
            return self.shares + index
        return self.devices + index


def layout_of(config):
    """The Layout of a configuration."""
    return Layout(config)


def code_words():
    """The words of the code."""
    values = dict(NAMED)
    values["GAP"] = GAP
    values["CALL"] = CALL
    names = [f"equ {name}, {values[name]}" for name in values]
    return assemble("\n".join(names) + CODE).words


def variable_words(config):
    """The kernel's variables at first."""
    words = [0] * 16
    words[NAMED["FRAME"]] = NAMED["FRAMES"]
    words[NAMED["BEGIN"]] = GAP
    words[NAMED["BEHIND"]] = NAMED["FRAMES"] + NAMED["FRAME_WORDS"] * len(config.frames)
    words[NAMED["MANY"]] = len(config.channels)
    return words


def frame_words(config):
    """The table of the frames."""
    words = []
    for p, ticks in config.frames:
        if p is None:
            words.extend([0, ticks])
        else:
            words.extend([record_of(p), ticks])
    return words


def map_words(config, p):
    """The map of a partition."""
    layout = layout_of(config)
    entries = [layout.page(p, kind, index) * RIGHTS + rights for kind, index, rights in page_map(config, p)]
    return padded(entries, VIRTUAL)


def partition_words(config):
    """The maps and the records of the partitions."""
    words = []
    for p, partition in enumerate(config.partitions):
        entry = map_words(config, p) + [0] * 8 + [partition.start]
        words.extend(padded(entry, NAMED["PARTITION_WORDS"]))
    return words


def channel_words(config):
    """The channels, which are empty."""
    words = []
    for source, target, capacity, told in config.channels:
        lost = 0 if told else 1
        entry = [record_of(source), record_of(target), capacity, lost]
        words.extend(padded(entry, NAMED["CHANNEL_WORDS"]))
    return words


def kernel_of(config):
    """The words of the memory: the code, the kernel's words, and the pages that partitions see."""
    memory = padded(code_words(), NAMED["VARIABLES"])
    memory = padded(memory + variable_words(config), NAMED["FRAMES"])
    memory = padded(memory + frame_words(config), NAMED["MAPS"])
    memory = padded(memory + partition_words(config), NAMED["CHANNELS"])
    memory = padded(memory + channel_words(config), NAMED["KERNEL_WORDS"])
    for partition in config.partitions:
        memory.extend(padded(list(partition.image), partition.pages * PAGE))
    return padded(memory, layout_of(config).behind * PAGE)
