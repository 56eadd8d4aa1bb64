"""Partings: two systems that a partition tells apart, though its history is the same in both."""

from merestone.codes import encode
from merestone.config import PAGE, Config, Partition, page_map
from merestone.judging import judge
from merestone.plain import Plain, run_plain
from merestone.views import Book, histories, view

# How many rounds of frames the programs run at most.
ROUNDS = 3

# The faults of point 07.3.
AGAINST_POLICY = ("sends", "tells", "shows")


def again():
    """Goes on at the address 0, as the register 7 stays 0."""
    return encode("jump", 7, 0, 0)


def resting():
    """A program that rests for ever."""
    return [encode("call", 0, 0, 0), again()]


def sending(channel):
    """A program that sends the word 1 again and again."""
    return [encode("set", 0, 0, 0), channel, encode("set", 1, 0, 0), 1, encode("call", 0, 0, 1), again()]


def receiving(channel):
    """A program that receives again and again."""
    return [encode("set", 0, 0, 0), channel, encode("call", 0, 0, 2), again()]


def writing(address, word):
    """A program that writes a word again and again."""
    return [encode("set", 1, 0, 0), address, encode("set", 2, 0, 0), word, encode("store", 2, 1, 0), again()]


def reading(address):
    """A program that reads a word again and again."""
    return [encode("set", 1, 0, 0), address, encode("load", 2, 1, 0), again()]


def with_programs(config, programs):
    """A configuration with other images; partitions for which no program is told rest for ever."""
    partitions = [Partition(programs.get(p, resting()), partition.pages, 0)
                  for p, partition in enumerate(config.partitions)]
    return Config(partitions, config.frames, config.channels, config.shares, config.devices, config.flows)


def share_address(config, p, index):
    """The address at which a partition sees a shared page."""
    kinds = [(kind, number) for kind, number, _ in page_map(config, p)]
    return kinds.index(("share", index)) * PAGE


def two_of_share(config, index):
    """The reader of a share, and the systems in which unlike words are written there."""
    writer, reader = config.shares[index]
    reads = reading(share_address(config, reader, index))
    at = share_address(config, writer, index)
    first = with_programs(config, {reader: reads, writer: writing(at, 0)})
    second = with_programs(config, {reader: reads, writer: writing(at, 1)})
    return (reader, first, second)


def two_systems(config, fault):
    """The partition that may tell two systems apart by what a fault lets flow, and these."""
    kind, index = fault
    if kind == "shows":
        return two_of_share(config, index)
    source, target, _, _ = config.channels[index]
    both = with_programs(config, {source: sending(index), target: receiving(index)})
    if kind == "sends":
        return (target, with_programs(config, {target: receiving(index)}), both)
    return (source, with_programs(config, {source: sending(index)}), both)


def first_difference(p, first, second):
    """The number of frames behind which the views of a partition differ for the first time, or None."""
    one = Plain(first, [])
    other = Plain(second, [])
    for number in range(ROUNDS * len(first.frames) + 1):
        if view(one, p) != view(other, p):
            return number
        one.run_frame()
        other.run_frame()
    return None


def same_histories(p, first, second, number):
    """True if the histories of a partition in two systems without inputs are equal behind so many frames."""
    book = Book()
    one = histories(first, [], number, book)
    other = histories(second, [], number, book)
    return one[number][p] == other[number][p]


def parting(config):
    """The parting that is found for the first fault of a configuration, or None."""
    fault = judge(config)
    if fault is None or fault[0] not in AGAINST_POLICY:
        return None
    p, first, second = two_systems(config, fault)
    number = first_difference(p, first, second)
    if number is None or not same_histories(p, first, second, number):
        return None
    return (p, first, second, number)


def unlike_images_alone(config, other):
    """True if a configuration differs from another one in the images and starts of its partitions only."""
    pages = [partition.pages for partition in config.partitions]
    return config.fields()[1:] == other.fields()[1:] and pages == [partition.pages for partition in other.partitions]


def proper_parting(config, answer):
    """True if an answer is a parting of a configuration."""
    p, first, second, number = answer
    fault = judge(config)
    if fault is None or fault[0] not in AGAINST_POLICY:
        return False
    if not unlike_images_alone(config, first) or not unlike_images_alone(config, second):
        return False
    if not same_histories(p, first, second, number):
        return False
    return view(run_plain(first, [], number), p) != view(run_plain(second, [], number), p)
