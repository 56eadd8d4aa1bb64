"""Configurations: partitions, the pages that they see, frames, and what may flow."""

PAGE = 16
VIRTUAL = 8
GAP = 256
CALL = 96

READ = 1
WRITE = 2
EXECUTE = 4


class Partition:
    """A partition: the words that its own pages begin with, their number, and where it starts."""

    def __init__(self, image, pages, start):
        self.image = tuple(image)
        self.pages = pages
        self.start = start

    def fields(self):
        """The tuple of all attributes."""
        return (self.image, self.pages, self.start)

    def __eq__(self, other):
        return isinstance(other, Partition) and self.fields() == other.fields()


class Config:
    """A configuration of a system."""

    def __init__(self, partitions, frames, channels, shares, devices, flows):
        self.partitions = tuple(partitions)
        self.frames = tuple(frames)
        self.channels = tuple(channels)
        self.shares = tuple(shares)
        self.devices = tuple(devices)
        self.flows = tuple(flows)

    def fields(self):
        """The tuple of all attributes."""
        return (self.partitions, self.frames, self.channels, self.shares, self.devices, self.flows)

    def __eq__(self, other):
        return isinstance(other, Config) and self.fields() == other.fields()


def share_rights(share, p):
    """The rights that a partition has on a shared page; 0 if it does not see it."""
    writer, reader = share
    if p == writer:
        return READ + WRITE
    if p == reader:
        return READ
    return 0


def page_map(config, p):
    """The pages that a partition sees, in order, as tuples (kind, index, rights)."""
    found = [("own", index, READ + WRITE + EXECUTE) for index in range(config.partitions[p].pages)]
    for index, share in enumerate(config.shares):
        rights = share_rights(share, p)
        if rights > 0:
            found.append(("share", index, rights))
    for index, owner in enumerate(config.devices):
        if owner == p:
            found.append(("device", index, READ))
    return found


def ticks_of(frames):
    """How many ticks some frames take, with the gaps before them."""
    return sum([GAP + ticks for _, ticks in frames])


def round_length(config):
    """How many ticks all frames take, with their gaps."""
    return ticks_of(config.frames)


def frame_start(config, number):
    """The tick at which a frame begins."""
    rounds, index = divmod(number, len(config.frames))
    return rounds * round_length(config) + ticks_of(config.frames[:index]) + GAP


def may_flow(config, source, target):
    """True if something may flow straight from a partition to another one, or to itself."""
    return source == target or (source, target) in config.flows


def sources_of(config, target):
    """The partitions from which something may flow to a partition, straight or over others."""
    found = [target]
    # The list grows while it is gone through, up to the last source of a source.
    at = 0
    while at < len(found):
        for source in range(len(config.partitions)):
            if source not in found and may_flow(config, source, found[at]):
                found.append(source)
        at += 1
    return sorted(found)
