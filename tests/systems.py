"""What the tests of the plain system and of the machine with its kernel have in common: programs and configurations."""

import random

from merestone.assembling import assemble
from merestone.config import Config, Partition, frame_start, page_map
from merestone.judging import judge

GAP = 256


def program(text, pages=None, start=0):
    """The partition of an assembly text; with as many own pages as it needs if no number is told."""
    words = assemble(text).words
    return Partition(words, pages or max(1, -(-len(words) // 16)), start)


def lines(*parts):
    return "\n".join(parts)


def after(many, text):
    """A text behind so many instructions of one word each, which count in r2."""
    return lines(*["addi r2, r2, 1"] * many, text)


SLEEPER = Partition([19 * 1024, 19 * 1024], 1, 0)

# Counts for ever in r1; sends r1 over the channel 0 again and again; receives from the channel 0 again and again.
COUNTER = program("loop: addi r1, r1, 1\n beq r0, r0, loop")
SENDER = program("loop: set r0, 0\n addi r1, r1, 1\n call 1\n add r5, r5, r0\n beq r2, r2, loop")
RECEIVER = program("loop: set r0, 0\n call 2\n add r5, r5, r0\n add r6, r6, r1\n beq r2, r2, loop")


def taken(config):
    """The configuration, which the judge must take."""
    assert judge(config) is None, judge(config)
    return config


def all_flows(many):
    return [(a, b) for a in range(many) for b in range(many) if a != b]


def alone(partition, *frames, devices=()):
    """A configuration with one partition; its frames are told by their ticks."""
    return taken(Config([partition], [(0, ticks) for ticks in frames], [], [], list(devices), []))


def pair(first, second, frames, channels=(), shares=(), devices=()):
    """A configuration with two partitions between which all may flow."""
    return taken(Config([first, second], list(frames), list(channels), list(shares), list(devices), [(0, 1), (1, 0)]))


def some_instruction(source):
    """Words of some instruction, which may end the program."""
    choice = source.random()
    if choice < 0.3:
        return f" call {source.choice((0, 1, 1, 1, 2, 2, 2, 3, source.randrange(16)))}"
    if choice < 0.5:
        return f" set r{source.randrange(8)}, {source.choice((source.randrange(14), source.randrange(140), 65535))}"
    return f" word {source.randrange(1024, source.choice((12, 19, 64)) * 1024)}"


def some_work(source, sent, received, written, read, channels):
    """Some lines of a program that goes on: calls, and what it does to the pages that it sees."""
    choice = source.random()
    far = source.choice((channels, 12, 16, 4096, 65535))
    if choice < 0.3:
        number = source.choice(sent + [far])
        return [f" set r0, {number}", f" addi r1, r1, {source.randrange(-8, 8)}", " call 1", " add r5, r5, r0"]
    if choice < 0.6:
        number = source.choice(received + [far])
        return [f" set r0, {number}", " call 2", " xor r4, r4, r1", " add r5, r5, r0"]
    if choice < 0.65:
        return [" call 0"]
    if choice < 0.72:
        return [" call 3", " add r4, r4, r0"]
    if choice < 0.8 or not read:
        # The last word is `bne r2, r3` to the instruction ahead of it, wherever the lines stand.
        return [f" set r2, {source.randrange(1, 60)}", " set r3, 0", " addi r2, r2, -1", " word 17718"]
    if choice < 0.9 and written:
        at = source.choice(written)
        return [f" set r2, {at}", " addi r1, r1, 3", f" store r1, r2, {source.randrange(16)}"]
    at = source.choice(read)
    return [f" set r2, {at}", f" load r4, r2, {source.randrange(16)}", " add r5, r5, r4"]


def some_program(source, config, p):
    """The image of a program for the pages and channels that a partition has."""
    seen = page_map(config, p)
    written = [16 * k for k, (kind, _, rights) in enumerate(seen) if kind == "share" and rights == 3]
    read = [16 * k for k, (kind, _, _) in enumerate(seen) if kind != "own"]
    if source.random() < 0.1:
        written = read
    sent = [k for k, channel in enumerate(config.channels) if channel[0] == p]
    received = [k for k, channel in enumerate(config.channels) if channel[1] == p]
    room = config.partitions[p].pages * 16 - 3
    found = []
    while source.random() < 0.95:
        if source.random() < 0.02:
            found.append(some_instruction(source))
        else:
            found.extend(some_work(source, sent, received, written, read, len(config.channels)))
        if len(assemble("\n".join(found)).words) > room - 8:
            break
    return assemble("\n".join(found + [" set r6, 0", " jump r6"])).words


def wild_program(source, pages):
    """The image of a program of any instructions."""
    found = [some_instruction(source) for _ in range(source.randrange(2, 8 * pages))]
    return assemble("\n".join(found + [" set r6, 0", " jump r6"])).words[:16 * pages]


def some_shape(source, largest):
    """A configuration without images, which the judge takes but perhaps for the pages that are seen."""
    many = 8 if largest else source.randint(1, 8)
    pairs = [(a, b) for a in range(many) for b in range(many) if a != b]
    pages = [source.choice((2, 3) if largest else (1, 1, 2, 3, 5)) for _ in range(many)]
    frames = [(source.choice([None] + list(range(many)) * 3), source.choice((128, 129, 300, source.randint(128, 700))))
              for _ in range(16 if largest else source.randint(1, 16))]
    channels, shares = [], []
    if pairs:
        channels = [(*source.choice(pairs), 8 if largest else source.randint(1, 8), source.random() < 0.5)
                    for _ in range(12 if largest else source.randint(0, 12))]
        shares = [source.choice(pairs) for _ in range(6 if largest else source.randint(0, 6))]
    devices = [source.randrange(many) for _ in range(6 if largest else source.randint(0, 6))]
    return Config([Partition([], each, 0) for each in pages], frames, channels, shares, devices, all_flows(many))


def some_config(number, largest=False, wild=False):
    """A configuration that the judge takes, by a number."""
    source = random.Random(number)
    shape = some_shape(source, largest)
    while judge(shape) is not None:
        shape = some_shape(source, largest)
    partitions = []
    for p, partition in enumerate(shape.partitions):
        words = wild_program(source, partition.pages) if wild else some_program(source, shape, p)
        partitions.append(Partition(words, partition.pages, 0))
    return taken(Config(partitions, *shape.fields()[1:]))


def some_flows(source, many):
    """A policy that need not be transitive."""
    return [each for each in all_flows(many) if source.random() < 0.4]


def some_shape_with_policy(source):
    """A configuration without images, whose channels and shares keep to its policy."""
    many = source.randint(2, 5)
    flows = some_flows(source, many)
    frames = [(source.choice([None] + list(range(many)) * 4), source.choice((128, 200, 300, source.randint(128, 700))))
              for _ in range(source.randint(1, 8))]
    channels, shares = [], []
    if flows:
        for a, b in [source.choice(flows) for _ in range(source.randint(0, 8))]:
            channels.append((a, b, source.randint(1, 4), (b, a) in flows and source.random() < 0.7))
        shares = [source.choice(flows) for _ in range(source.randint(0, 5))]
    devices = [source.randrange(many) for _ in range(source.randint(0, 4))]
    pages = [source.choice((1, 2, 3)) for _ in range(many)]
    return Config([Partition([], each, 0) for each in pages], frames, channels, shares, devices, flows)


def with_images(shape, images):
    """A configuration with other images."""
    partitions = [Partition(image, each.pages, each.start) for image, each in zip(images, shape.partitions)]
    return Config(partitions, *shape.fields()[1:])


def some_images(source, shape):
    return [some_program(source, shape, p) for p in range(len(shape.partitions))]


def some_policy_config(number):
    """A configuration that the judge takes, with a policy that does not let flow all, by a number."""
    source = random.Random(number)
    shape = some_shape_with_policy(source)
    while judge(shape) is not None:
        shape = some_shape_with_policy(source)
    return taken(with_images(shape, some_images(source, shape)))


def some_inputs(config, count, many, number=0):
    """Inputs for the devices of a configuration, before the end of so many frames and outside of the gap behind it."""
    if not config.devices:
        return []
    source = random.Random(number)
    end = frame_start(config, count) - GAP
    ticks = sorted(source.randrange(end) for _ in range(many))
    return [(tick, source.randrange(len(config.devices)), source.randrange(65536)) for tick in ticks]
