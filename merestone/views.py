"""Views and histories: what a partition has seen, and what may have come to it."""

from merestone.config import GAP, Config, may_flow, page_map
from merestone.plain import Plain


def view(plain, p):
    """What a partition has seen: its trace, its state, and the other pages that it sees."""
    others = [tuple(plain.words_of_page(p, kind, index))
              for kind, index, _ in page_map(plain.config, p) if kind != "own"]
    return (tuple(plain.trace(p)), plain.state(p), tuple(others))


class Book:
    """Numbers for keys: equal keys have the same number, unlike keys have unlike ones."""

    def __init__(self):
        self.known = {}

    def number(self, key):
        """The number of a key."""
        if key not in self.known:
            self.known[key] = len(self.known)
        return self.known[key]


def shape_of(config):
    """A configuration without its images, as a key."""
    partitions = tuple([(partition.pages, partition.start) for partition in config.partitions])
    return ("shape", partitions, config.frames, config.channels, config.shares, config.devices, config.flows)


class Chronicle:
    """The histories of all partitions, which grow frame by frame."""

    def __init__(self, config, inputs, book):
        self.config = config
        self.book = book
        self.coming = list(inputs)
        self.number = 0
        self.tick = 0
        self.begin = GAP
        shape = book.number(shape_of(config))
        self.told = [book.number(("first", shape, p, partition.image))
                     for p, partition in enumerate(config.partitions)]

    def add_inputs(self, limit):
        """Adds the inputs that come before a tick to the histories of the partitions that see them."""
        due = [entry for entry in self.coming if entry[0] < limit]
        self.coming = self.coming[len(due):]
        for p, told in enumerate(list(self.told)):
            own = tuple([entry for entry in due if self.config.devices[entry[1]] == p])
            if len(own) > 0:
                self.told[p] = self.book.number(("inputs", told, own))

    def add_run(self, source):
        """Adds that a partition runs to the histories of those to which something may flow from it."""
        before = list(self.told)
        for p, told in enumerate(before):
            if may_flow(self.config, source, p):
                self.told[p] = self.book.number(("run", told, before[source], self.number))

    def add_frame(self):
        """Adds the next frame, with the gap before it."""
        source, ticks = self.config.frames[self.number % len(self.config.frames)]
        self.tick = self.begin + ticks
        self.add_inputs(self.tick)
        if source is not None:
            self.add_run(source)
        self.number += 1
        self.begin = self.tick + GAP

    def change(self, config):
        """Goes on with the frames of another configuration."""
        shape = self.book.number(shape_of(config))
        self.told = [self.book.number(("change", told, shape)) for told in self.told]
        self.config = config
        self.number = 0
        self.begin = self.tick + 2 * GAP

    def rows(self, count):
        """The lists of the histories behind each one of so many frames."""
        found = []
        for _ in range(count):
            self.add_frame()
            found.append(list(self.told))
        return found


def histories(config, inputs, count, book):
    """The lists of the histories of all partitions, behind 0, 1 and so on up to so many frames."""
    chronicle = Chronicle(config, inputs, book)
    first = list(chronicle.told)
    return [first] + chronicle.rows(count)


def reaches(config, p, event):
    """True if an event reaches a partition from another one."""
    kind, _, index = event[:3]
    if kind == "send":
        return config.channels[index][1] == p
    if kind == "take":
        return config.channels[index][0] == p and config.channels[index][3]
    return config.shares[index][1] == p


def border(plain, p):
    """The events that have reached a partition from others, in order."""
    return [event for event in plain.events if reaches(plain.config, p, event)]


def frames_of(config, p):
    """A configuration in which the frames of all other partitions are idle."""
    frames = [(p if owner == p else None, ticks) for owner, ticks in config.frames]
    return Config(config.partitions, frames, config.channels, config.shares, config.devices, config.flows)


class Lone(Plain):
    """A system in which one partition runs; what reaches it from others is told by events."""

    def __init__(self, config, p, inputs, reaching):
        super().__init__(frames_of(config, p), inputs)
        self.reaching = reaching
        self.reached = 0

    def write_inputs(self, limit):
        """Writes all inputs, and carries out all events, that come before a tick."""
        super().write_inputs(limit)
        while self.reached < len(self.reaching) and self.reaching[self.reached][1] < limit:
            self.carry_out_event(self.reaching[self.reached])
            self.reached += 1

    def carry_out_event(self, event):
        """What another partition has done."""
        kind, _, index = event[:3]
        if kind == "write":
            self.shares[index][event[3]] = event[4]
        elif kind == "take":
            self.channels[index] = self.channels[index][1:]
        elif len(self.channels[index]) < self.config.channels[index][2]:
            self.channels[index].append(event[3])


def alone(config, p, inputs, events, count):
    """The view of a partition that runs alone behind so many frames, with the events of its border."""
    lone = Lone(config, p, inputs, [event for event in events if reaches(config, p, event)])
    for _ in range(count):
        lone.run_frame()
    return view(lone, p)
