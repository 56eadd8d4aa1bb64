"""The judge: the faults of a configuration, in their order."""

from merestone.config import PAGE, VIRTUAL, may_flow, page_map
from merestone.words import is_word


def is_integer(value):
    """True if a value is an integer; a truth value is none."""
    return isinstance(value, int) and not isinstance(value, bool)


def is_within(value, least, greatest):
    """True if a value is an integer within bounds."""
    return is_integer(value) and least <= value <= greatest


def is_tuple_of(value, size):
    """True if a value is a tuple of so many things."""
    return isinstance(value, tuple) and len(value) == size


def is_partition(config, value):
    """True if a value is the number of a partition."""
    return is_within(value, 0, len(config.partitions) - 1)


def are_different(config, first, second):
    """True if two values are the numbers of two different partitions."""
    return is_partition(config, first) and is_partition(config, second) and first != second


def count_fault(config):
    """The first fault of point 07.1, or None."""
    rows = (
        ("partitions", len(config.partitions), 1, 8),
        ("frames", len(config.frames), 1, 16),
        ("channels", len(config.channels), 0, 12),
        ("shares", len(config.shares), 0, 6),
        ("devices", len(config.devices), 0, 6),
        ("flows", len(config.flows), 0, 64),
    )
    for kind, number, least, greatest in rows:
        if not least <= number <= greatest:
            return (kind, number)
    return None


def partition_fits(config, partition):
    """True if a partition has a proper number of pages, image and start."""
    if not is_within(partition.pages, 1, VIRTUAL):
        return False
    words = partition.pages * PAGE
    if len(partition.image) > words or not is_within(partition.start, 0, words - 1):
        return False
    return all([is_integer(word) and is_word(word) for word in partition.image])


def frame_fits(config, frame):
    """True if a frame has a proper shape."""
    if not is_tuple_of(frame, 2):
        return False
    p, ticks = frame
    return (p is None or is_partition(config, p)) and is_within(ticks, 128, 4000)


def channel_fits(config, channel):
    """True if a channel has a proper shape."""
    if not is_tuple_of(channel, 4):
        return False
    source, target, capacity, told = channel
    return are_different(config, source, target) and is_within(capacity, 1, 8) and isinstance(told, bool)


def pair_fits(config, pair):
    """True if a share or a flow has a proper shape."""
    return is_tuple_of(pair, 2) and are_different(config, pair[0], pair[1])


def device_fits(config, owner):
    """True if a device has a partition that sees its page."""
    return is_partition(config, owner)


def pages_fit(config, p):
    """True if a partition does not see too many pages."""
    return len(page_map(config, p)) <= VIRTUAL


FITTING = {
    "partition": partition_fits,
    "frame": frame_fits,
    "channel": channel_fits,
    "share": pair_fits,
    "device": device_fits,
    "flow": pair_fits,
    "pages": pages_fit,
}


def shape_fault(config):
    """The first fault of point 07.2, or None."""
    rows = (
        ("partition", config.partitions),
        ("frame", config.frames),
        ("channel", config.channels),
        ("share", config.shares),
        ("device", config.devices),
        ("flow", config.flows),
        ("pages", tuple(range(len(config.partitions)))),
    )
    for kind, things in rows:
        fits = FITTING[kind]
        for index, thing in enumerate(things):
            if not fits(config, thing):
                return (kind, index)
    return None


def channel_fault(config, index):
    """The first fault of point 07.3 of a channel, or None."""
    source, target, _, told = config.channels[index]
    if not may_flow(config, source, target):
        return ("sends", index)
    if told and not may_flow(config, target, source):
        return ("tells", index)
    return None


def flow_fault(config):
    """The first fault of point 07.3, or None."""
    for index in range(len(config.channels)):
        fault = channel_fault(config, index)
        if fault is not None:
            return fault
    for index, (writer, reader) in enumerate(config.shares):
        if not may_flow(config, writer, reader):
            return ("shows", index)
    return None


def judge(config):
    """The first fault of a configuration, or None."""
    fault = count_fault(config)
    if fault is None:
        fault = shape_fault(config)
    if fault is None:
        fault = flow_fault(config)
    return fault
