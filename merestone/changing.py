"""Other configurations: systems that go on by another one, and histories through such changes."""

from merestone.config import GAP, PAGE
from merestone.judging import judge
from merestone.snapshots import Snapshot, last_end, machine_of, plain_of, states_of_machine
from merestone.system import rest_state
from merestone.views import Chronicle


def can_change(old, new):
    """True if a system of a configuration can get another one."""
    if judge(old) is not None or judge(new) is not None or old.devices != new.devices:
        return False
    return [partition.pages for partition in old.partitions] == [partition.pages for partition in new.partitions]


def carried(old, new, contents, empty):
    """The contents of new things: those of an equal old one that is not used yet, or else empty."""
    unused = list(range(len(old)))
    found = []
    for thing in new:
        equal = [index for index in unused if old[index] == thing]
        if len(equal) > 0:
            unused.remove(equal[0])
            found.append(contents[equal[0]])
        else:
            found.append(empty)
    return tuple(found)


def changed(old, new, end, states, rest):
    """The Snapshot of a system, whose last frame has ended at a tick, by another configuration."""
    shares, devices, channels = rest
    others = (carried(old.shares, new.shares, shares, (0,) * PAGE), devices,
              carried(old.channels, new.channels, channels, ()))
    return Snapshot(new, end + 2 * GAP, 0, 0, states, others)


def plain_changed(plain, config):
    """A plain system that goes on by another configuration."""
    states = [plain.state(p) for p in range(len(plain.cells))]
    found = plain_of(changed(plain.config, config, plain.tick, states, plain.rest()), plain.inputs)
    found.tick = plain.tick
    found.given = plain.given
    for cell, before in zip(found.cells, plain.cells):
        cell.begun = list(before.begun)
    return found


def machine_changed(machine, old, new):
    """A machine that goes on by another configuration, from the tick before a frame of the old one begins."""
    end = last_end(machine)
    snapshot = changed(old, new, end, states_of_machine(machine, old), rest_state(machine, old))
    found = machine_of(snapshot, end, machine.tick, machine.inputs)
    found.given = machine.given
    return found


def histories_through(phases, inputs, book):
    """The lists of the histories behind 0 frames of the first phase, and behind each frame of all phases."""
    chronicle = Chronicle(phases[0][0], inputs, book)
    found = [list(chronicle.told)]
    for index, (config, count) in enumerate(phases):
        if index > 0:
            chronicle.change(config)
        found.extend(chronicle.rows(count))
    return found
