"""Saved systems: lists of integers that tell a whole system between two frames."""

from merestone.config import GAP, PAGE, Config, Partition
from merestone.errors import BadState
from merestone.judging import judge
from merestone.snapshots import (
    Snapshot, first_state, machine_of, plain_of, snapshot_of_machine, snapshot_of_plain,
)
from merestone.words import is_word


def partition_numbers(partition):
    """A partition of a configuration as numbers."""
    return [partition.pages, partition.start, len(partition.image)] + list(partition.image)


def frame_numbers(frame):
    """A frame as numbers."""
    p, ticks = frame
    return [0 if p is None else p + 1, ticks]


def channel_numbers(channel):
    """A channel as numbers."""
    source, target, capacity, told = channel
    return [source, target, capacity, 1 if told else 0]


def with_count(rows):
    """The number of rows, and all that they hold."""
    found = [len(rows)]
    for row in rows:
        found.extend(row)
    return found


def config_numbers(config):
    """A configuration as numbers."""
    found = with_count([partition_numbers(partition) for partition in config.partitions])
    found.extend(with_count([frame_numbers(frame) for frame in config.frames]))
    found.extend(with_count([channel_numbers(channel) for channel in config.channels]))
    found.extend(with_count(config.shares))
    found.extend(with_count(config.flows))
    found.extend(with_count([[device] for device in config.devices]))
    return found


def state_numbers(state):
    """The state of a partition as numbers."""
    registers, place, end, own = state
    found = list(registers) + [place]
    if end is None:
        found.extend([0, 0, 0])
    else:
        found.extend([1, end[0], end[1]])
    for words in own:
        found.extend(words)
    return found


def numbers_of(snapshot):
    """A whole system as numbers."""
    found = [snapshot.begin, snapshot.index, snapshot.number] + config_numbers(snapshot.config)
    for state in snapshot.states:
        found.extend(state_numbers(state))
    shares, devices, channels = snapshot.others
    for words in shares + devices:
        found.extend(words)
    for words in channels:
        found.append(len(words))
        found.extend(words)
    return found


class NumberReader:
    """Goes through the numbers of a saved system."""

    def __init__(self, numbers):
        self.numbers = numbers
        self.at = 0

    def left(self):
        """How many numbers are left."""
        return len(self.numbers) - self.at

    def take_row(self, many):
        """The list of the next numbers."""
        if not 0 <= many <= self.left():
            raise BadState("numbers")
        self.at += many
        return self.numbers[self.at - many:self.at]

    def take(self):
        """The next number."""
        return self.take_row(1)[0]

    def take_count(self):
        """The next number, if so many things, or words, can follow."""
        count = self.take()
        if not 0 <= count <= self.left():
            raise BadState("numbers")
        return count

    def take_rows(self, many):
        """A list of rows of so many numbers each, told by their number."""
        return [self.take_row(many) for _ in range(self.take_count())]

    def take_pages(self, many):
        """A list of pages."""
        return [self.take_row(PAGE) for _ in range(many)]

    def finish(self):
        """No number may be left."""
        if self.left() > 0:
            raise BadState("numbers")


def read_partition(reader):
    """A partition of a configuration."""
    pages = reader.take_count()
    start = reader.take()
    return Partition(reader.take_row(reader.take_count()), pages, start)


def read_frame(row):
    """A frame, by its two numbers."""
    p, ticks = row
    if p == 0:
        return (None, ticks)
    return (p - 1, ticks)


def read_channel(row):
    """A channel, by its four numbers."""
    source, target, capacity, told = row
    if told == 0:
        return (source, target, capacity, False)
    if told == 1:
        return (source, target, capacity, True)
    return (source, target, capacity, told)


def read_config(reader):
    """A configuration."""
    partitions = [read_partition(reader) for _ in range(reader.take_count())]
    frames = [read_frame(row) for row in reader.take_rows(2)]
    channels = [read_channel(row) for row in reader.take_rows(4)]
    shares = [tuple(row) for row in reader.take_rows(2)]
    flows = [tuple(row) for row in reader.take_rows(2)]
    devices = [row[0] for row in reader.take_rows(1)]
    return Config(partitions, frames, channels, shares, devices, flows)


def read_state(reader, pages):
    """The state of a partition; its end is still a list of three numbers."""
    registers = reader.take_row(8)
    place = reader.take()
    ended = reader.take_row(3)
    return (registers, place, ended, reader.take_pages(pages))


class Contents:
    """What stands in a saved system, as it was read: rows of numbers of which nothing is known."""

    def __init__(self, reader, config):
        self.states = [read_state(reader, partition.pages) for partition in config.partitions]
        self.shares = reader.take_pages(len(config.shares))
        self.devices = reader.take_pages(len(config.devices))
        self.channels = [reader.take_row(reader.take_count()) for _ in config.channels]

    def rows(self):
        """All rows of numbers that must be words."""
        found = self.shares + self.devices + self.channels
        for registers, place, _, own in self.states:
            found.extend([registers, [place]])
            found.extend(own)
        return found

    def have_words(self):
        """True if all is a word that must be one."""
        return all([is_word(number) for row in self.rows() for number in row])

    def have_ends(self):
        """True if all ends are such as there are."""
        return all([is_end(ended) for _, _, ended, _ in self.states])

    def fit_channels(self, config):
        """True if no channel has more words than its capacity."""
        return all([len(words) <= channel[2] for words, channel in zip(self.channels, config.channels)])


def is_end(ended):
    """True if three numbers are an end of a partition, or tell that it has none."""
    if ended[0] != 1:
        return ended == [0, 0, 0]
    _, cause, value = ended
    if cause == 2:
        return is_word(value)
    if cause == 3:
        return 4 <= value <= 15
    return cause in (1, 5) and value == 0


def is_frame(config, begin, index, number):
    """True if a frame can be the next one."""
    return begin >= GAP and 0 <= index < len(config.frames) and is_word(number)


def finished_state(row):
    """The state of a partition as the plain system tells it."""
    registers, place, ended, own = row
    end = None
    if ended[0] == 1:
        end = (ended[1], ended[2])
    return (tuple(registers), place, end, tuple([tuple(words) for words in own]))


def snapshot_of(numbers):
    """The Snapshot of a saved system."""
    reader = NumberReader(numbers)
    begin, index, number = reader.take_row(3)
    config = read_config(reader)
    contents = Contents(reader, config)
    reader.finish()
    if judge(config) is not None:
        raise BadState("config")
    if not is_frame(config, begin, index, number):
        raise BadState("frame")
    if not contents.have_words():
        raise BadState("words")
    if not contents.have_ends():
        raise BadState("ends")
    if not contents.fit_channels(config):
        raise BadState("channels")
    states = [finished_state(row) for row in contents.states]
    rest = (tuple([tuple(words) for words in contents.shares]), tuple([tuple(words) for words in contents.devices]),
            tuple([tuple(words) for words in contents.channels]))
    return Snapshot(config, begin, index, number, states, rest)


def saved_plain(plain):
    """The numbers of a plain system behind its last frame, at the tick before the next one begins."""
    return numbers_of(snapshot_of_plain(plain))


def saved_machine(machine, config):
    """The numbers of a machine at the tick before a frame begins."""
    return numbers_of(snapshot_of_machine(machine, config))


def loaded_plain(numbers, inputs):
    """The plain system of some numbers."""
    return plain_of(snapshot_of(numbers), inputs)


def loaded_machine(numbers, inputs):
    """The machine of some numbers, at the tick before the next frame begins."""
    snapshot = snapshot_of(numbers)
    return machine_of(snapshot, snapshot.begin - GAP, snapshot.begin - 1, inputs)


def config_of(numbers):
    """The configuration of some numbers."""
    return snapshot_of(numbers).config


def restarted(numbers, p):
    """The numbers of the same system with one partition as at the beginning."""
    snapshot = snapshot_of(numbers)
    snapshot.states[p] = first_state(snapshot.config.partitions[p])
    return numbers_of(snapshot)
