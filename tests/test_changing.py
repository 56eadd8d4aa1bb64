"""merestone.changing: chapter 15."""

import random
import unittest

from merestone.changing import can_change, histories_through, machine_changed, plain_changed
from merestone.config import GAP, Config, Partition
from merestone.machine import Machine
from merestone.plain import Plain, run_plain
from merestone.saving import loaded_machine, loaded_plain, restarted, saved_machine, saved_plain
from merestone.system import Watcher, booted, partition_state, rest_state, run_frames
from merestone.views import Book, histories, view
from systems import (
    COUNTER, RECEIVER, SENDER, SLEEPER, all_flows, alone, pair, program, some_config, some_images, some_policy_config,
    some_shape_with_policy, taken, with_images,
)

EMPTY = (0,) * 16
ASKER = program("loop: call 3\nadd r1, r1, r0\ncall 0\nbeq r2, r2, loop")
READS = program("set r1, 16\nloop: load r2, r1, 0\nload r3, r1, 2\nadd r4, r4, r3\nbeq r0, r0, loop")


def changed(config, **fields):
    """A configuration with other attributes, which the judge must take."""
    values = dict(zip(("partitions", "frames", "channels", "shares", "devices", "flows"), config.fields()))
    return taken(Config(**{**values, **fields}))


def states(machine, config):
    return [partition_state(machine, config, p) for p in range(len(config.partitions))]


def plain_states(plain):
    return [plain.state(p) for p in range(len(plain.config.partitions))]


def some_other(source, config):
    """Another configuration to which a configuration can be changed."""
    many = len(config.partitions)
    pages = [each.pages for each in config.partitions]
    while True:
        frames = [(source.choice([None, *range(many)]), source.choice((128, 129, 300, source.randint(128, 700))))
                  for _ in range(source.randint(1, 8))]
        pairs = all_flows(many)
        channels, shares = [], []
        for each in config.channels:
            channels += [each] * source.choice((0, 1, 1, 2))
        if pairs:
            channels += [(*source.choice(pairs), source.randint(1, 8), source.random() < 0.5)
                         for _ in range(source.randint(0, 3))]
            shares = [each for each in config.shares if source.random() < 0.7]
            shares += [source.choice(pairs) for _ in range(source.randint(0, 2))]
        source.shuffle(channels)
        source.shuffle(shares)
        partitions = [Partition([source.randrange(65536)] * 5, each, source.randrange(16)) for each in pages]
        found = Config(partitions, frames, channels[:12], shares[:6], config.devices, pairs)
        if can_change(config, found):
            return found


class ChangingTest(unittest.TestCase):
    def assert_phases(self, phases, inputs=(), saved=True):
        """Machine and plain system through phases: configurations and numbers of frames; returns the plain system."""
        inputs = list(inputs)
        first = phases[0][0]
        plain, machine = Plain(first, inputs), booted(first, inputs)
        traces = [[] for _ in first.partitions]
        end = 0
        for index, (config, count) in enumerate(phases):
            gap = GAP
            if index > 0:
                before = phases[index - 1][0]
                self.assertIs(can_change(before, config), True)
                plain, machine = plain_changed(plain, config), machine_changed(machine, before, config)
                gap = 2 * GAP
            self.assertEqual((plain.config, plain.number, plain.tick, plain.events), (config, 0, end, []))
            watcher = Watcher(machine, config)
            for number in range(count + 1):
                if number > 0:
                    plain.run_frame()
                    end += gap + config.frames[(number - 1) % len(config.frames)][1]
                    gap = GAP
                self.assertEqual((plain.tick, plain.number), (end, number))
                watcher.run(end + gap - 1)
                self.assertEqual((machine.tick, machine.mode), (end + gap - 1, "kernel"))
                self.assertEqual(states(machine, config), plain_states(plain))
                self.assertEqual([a + b for a, b in zip(traces, watcher.traces)],
                                 [plain.trace(p) for p in range(len(config.partitions))])
                self.assertEqual(rest_state(machine, config)[::2], plain.rest()[::2])
                if saved:
                    self.assertEqual(saved_machine(machine, config), saved_plain(plain))
            traces = [plain.trace(p) for p in range(len(config.partitions))]
        return plain


class CanChangeTest(unittest.TestCase):
    def setUp(self):
        self.old = taken(Config([Partition([1], 1, 0), Partition([2], 2, 5)], [(0, 200), (1, 200)], [(0, 1, 2, False)],
                                [(0, 1)], [0, 1], [(0, 1)]))

    def assert_change(self, new, found):
        self.assertIs(can_change(self.old, new), found)
        self.assertIs(can_change(new, self.old), found)

    def test_it_can(self):
        self.assert_change(self.old, True)
        old = self.old
        self.assert_change(changed(old, partitions=[Partition([], 1, 9), Partition([7] * 32, 2, 0)]), True)
        self.assert_change(changed(old, frames=[(None, 4000)]), True)
        self.assert_change(changed(old, channels=[]), True)
        self.assert_change(changed(old, shares=[]), True)
        self.assert_change(changed(old, channels=[], shares=[], flows=[]), True)
        self.assert_change(changed(old, channels=[(1, 0, 8, True)], shares=[(1, 0)] * 2, flows=[(1, 0), (0, 1)]), True)

    def test_other_devices(self):
        for devices in ([0], [1, 0], [0, 1, 1], [], [0, 0]):
            self.assert_change(changed(self.old, devices=devices), False)

    def test_other_partitions(self):
        first, second = self.old.partitions
        for partitions in ([first, Partition([2], 1, 5)], [Partition([1], 2, 0), second], [first, second, first],
                           [Partition([1], 2, 0), Partition([2], 1, 5)]):
            self.assert_change(changed(self.old, partitions=partitions), False)

    def test_configurations_that_the_judge_refuses(self):
        fields = self.old.fields()
        bad = [
            Config(*fields[:5], []), Config(fields[0], [(0, 127)], *fields[2:]), Config(fields[0], [], *fields[2:]),
            Config([Partition([1], 1, 16), fields[0][1]], *fields[1:]),
            Config([Partition([1] * 17, 1, 0), fields[0][1]], *fields[1:]),
            Config(*fields[:2], [(0, 1, 2, True)], *fields[3:]), Config(*fields[:3], [(1, 0)], *fields[4:]),
        ]
        for config in bad:
            self.assert_change(config, False)
            self.assertIs(can_change(config, config), False)


class ChangedTest(ChangingTest):
    def test_partitions_keep_what_they_have(self):
        config = pair(SENDER, program("addi r1, r1, 3\nhalt"), [(0, 700), (1, 200)], [(0, 1, 2, True)], (), [1])
        new = changed(config, partitions=[Partition([9], 1, 7), Partition([8], 1, 0)], frames=[(1, 130), (0, 300)])
        plain = run_plain(config, [(3, 0, 7)], 2)
        found = plain_changed(plain, new)
        self.assertEqual((plain_states(found), found.rest()), (plain_states(plain), plain.rest()))
        self.assertEqual([found.trace(p) for p in (0, 1)], [plain.trace(p) for p in (0, 1)])
        self.assertEqual((found.events, found.number, found.tick, found.config), ([], 0, plain.tick, new))
        found.run_frame()
        self.assertEqual((found.trace(1), found.number), (plain.trace(1), 1))
        found.run_frame()
        begin = plain.tick + 512 + 130 + 256
        self.assertEqual(found.trace(0)[len(plain.trace(0))][:2], (begin, plain.state(0)[1]))

    def test_when_the_first_frame_begins(self):
        config = alone(COUNTER, 200)
        for count in (0, 1, 2, 5):
            plain = run_plain(config, [], count)
            end = plain.tick
            found = plain_changed(plain, changed(config, frames=[(0, 130), (0, 140)]))
            self.assertEqual(found.tick, end)
            found.run_frame()
            found.run_frame()
            ticks = [each[0] for each in found.trace(0)[200 * count:]]
            self.assertEqual(ticks, [*range(end + 512, end + 642), *range(end + 898, end + 1038)])
            self.assertEqual(found.tick, end + 1038)

    def test_the_old_system_stays(self):
        config = pair(SENDER, RECEIVER, [(0, 700), (1, 300)], [(0, 1, 2, True)], [(0, 1)], [1])
        new = changed(config, frames=[(1, 300), (0, 300)], channels=[(0, 1, 2, True)] * 2)
        inputs = [(500, 0, 3), (1000, 0, 4), (2000, 0, 5)]
        plain, machine = run_plain(config, inputs, 1), booted(config, inputs)
        run_frames(machine, config, 1)
        before = machine.state()
        found, other = plain_changed(plain, new), machine_changed(machine, config, new)
        for _ in range(4):
            found.run_frame()
        other.run(3000)
        self.assertEqual(machine.state(), before)
        whole = run_plain(config, inputs, 1)
        self.assertEqual((plain_states(plain), plain.rest(), plain.trace(0), plain.events),
                         (plain_states(whole), whole.rest(), whole.trace(0), whole.events))
        plain.run_frame()
        whole.run_frame()
        self.assertEqual((plain.rest(), plain.events), (whole.rest(), whole.events))

    def test_the_new_system_stays(self):
        config = pair(SENDER, RECEIVER, [(0, 700), (1, 300)], [(0, 1, 2, True)], [(0, 1)])
        plain = run_plain(config, [], 1)
        found = plain_changed(plain, config)
        before = (plain_states(found), found.rest(), found.trace(0), found.events[:])
        for _ in range(4):
            plain.run_frame()
        self.assertEqual((plain_states(found), found.rest(), found.trace(0), found.events), before)

    def test_kinds(self):
        config = alone(COUNTER, 200)
        machine = booted(config, [(1000, 0, 1)])
        run_frames(machine, config, 1)
        self.assertIsInstance(machine_changed(machine, config, config), Machine)
        self.assertIsInstance(plain_changed(Plain(config, []), config), Plain)


class CarriedTest(ChangingTest):
    """What is kept of shares and channels, and what begins anew."""

    def setUp(self):
        # It writes 50 and 51 to its shared pages, and sends 10 over its first channel, 11 and 12 over the other one.
        first = program("set r2, 50\nset r1, 32\nstore r2, r1, 0\nset r1, 48\naddi r2, r2, 1\nstore r2, r1, 0\n"
                        "set r0, 0\nset r1, 10\ncall 1\nset r0, 1\nset r1, 11\ncall 1\n"
                        "set r0, 1\nset r1, 12\ncall 1\nhalt", 2)
        partitions = [first, Partition(SLEEPER.image, 1, 0), Partition(SLEEPER.image, 1, 0)]
        self.config = taken(Config(
            partitions, [(0, 700), (1, 200), (2, 200)], [(0, 1, 2, True), (0, 1, 2, True), (1, 0, 2, True)],
            [(0, 1), (0, 1)], [], all_flows(3)))
        self.plain = run_plain(self.config, [], 1)

    def page(self, word):
        return (word,) + (0,) * 15

    def found(self, **fields):
        new = changed(self.config, **fields)
        self.assert_phases([(self.config, 1), (new, 3)])
        return plain_changed(self.plain, new).rest()

    def test_before(self):
        self.assertEqual(self.plain.rest(), ((self.page(50), self.page(51)), (), ((10,), (11, 12), ())))

    def test_equal_ones_in_their_order(self):
        self.assertEqual(self.found(), self.plain.rest())
        self.assertEqual(self.found(shares=[(0, 1)]), ((self.page(50),), (), ((10,), (11, 12), ())))
        self.assertEqual(self.found(shares=[(0, 1)] * 3)[0], (self.page(50), self.page(51), EMPTY))
        self.assertEqual(self.found(channels=[(0, 1, 2, True)])[2], ((10,),))
        self.assertEqual(self.found(channels=[(0, 1, 2, True)] * 4)[2], ((10,), (11, 12), (), ()))

    def test_in_other_places(self):
        self.assertEqual(self.found(shares=[(1, 2), (0, 1), (2, 0), (0, 1)])[0],
                         (EMPTY, self.page(50), EMPTY, self.page(51)))
        self.assertEqual(self.found(channels=[(2, 0, 1, False), (1, 0, 2, True), (0, 1, 2, True), (1, 2, 2, True),
                                              (0, 1, 2, True)])[2], ((), (), (10,), (), (11, 12)))

    def test_other_ones_begin_anew(self):
        for share in ((1, 0), (0, 2), (2, 1)):
            self.assertEqual(self.found(shares=[share])[0], (EMPTY,))
        for channel in ((1, 0, 2, True), (0, 2, 2, True), (2, 1, 2, True), (0, 1, 1, True), (0, 1, 3, True),
                        (0, 1, 2, False)):
            self.assertEqual(self.found(channels=[channel])[2], ((),))
        self.assertEqual(self.found(shares=[], channels=[]), ((), (), ()))

    def test_what_has_gone_does_not_come_again(self):
        new = changed(self.config, shares=[(0, 1)], channels=[])
        plain = self.assert_phases([(self.config, 1), (new, 2), (self.config, 3)])
        self.assertEqual(plain_changed(plain_changed(self.plain, new), self.config).rest(),
                         ((self.page(50), EMPTY), (), ((), (), ())))
        self.assertEqual(plain.state(0)[2], (5, 0))


class MachineTest(ChangingTest):
    def test_numbers_of_frames(self):
        config = alone(ASKER, 300, 200)
        for count in (0, 1, 2, 3, 7):
            plain = self.assert_phases([(config, count), (changed(config, frames=[(0, 250), (None, 128)]), 5),
                                        (config, 3)])
            answers = [each[2][0] for each in plain.trace(0) if each[1] == 1]
            self.assertEqual(answers, [*range(count), 0, 2, 4, 0, 1, 2])

    def test_frames_and_ticks(self):
        config = pair(SENDER, RECEIVER, [(0, 700), (1, 300)], [(0, 1, 2, True)])
        for count in (0, 1, 2, 3):
            for frames in ([(0, 128)], [(1, 4000), (0, 128)], [(None, 128), (1, 300)], [(1, 223), (0, 225), (1, 200)]):
                self.assert_phases([(config, count), (changed(config, frames=frames), 4)])

    def test_ended_partitions(self):
        for text in ("halt", "word 1", "set r1, 99\njump r1", "call 9", "set r3, 65535\nload r1, r3, 0"):
            config = pair(program(text), COUNTER, [(0, 200), (1, 200)])
            plain = self.assert_phases([(config, 3), (changed(config, frames=[(0, 128), (1, 130)]), 4)])
            self.assertIsNotNone(plain.state(0)[2])

    def test_partitions_in_the_midst(self):
        # Calls that came too late, and partitions that rest, go on in the frames of the other configuration.
        config = pair(program("loop: addi r2, r2, 1\nset r0, 0\ncall 1\naddi r3, r3, 1\nbeq r4, r4, loop"), ASKER,
                      [(0, 130), (1, 300)], [(0, 1, 3, True)])
        for count in (1, 2, 3):
            self.assert_phases([(config, count), (changed(config, frames=[(0, 300), (1, 128), (0, 128)]), 6)])

    def test_inputs_around_the_change(self):
        config = pair(READS, READS, [(0, 200), (1, 200)], (), (), [0, 1])
        new = changed(config, frames=[(1, 200), (None, 128), (0, 200)], shares=[(1, 0)])
        for count in (0, 1, 2):
            end = run_plain(config, [], count).tick
            for tick in (end - 1, end, end + 1, end + 100, end + 254, end + 255, end + 256, end + 300, end + 510,
                         end + 511, end + 512, end + 513, end + 600, end + 712, end + 1000):
                if tick >= 0:
                    self.assert_phases([(config, count), (new, 4)], [(tick, 0, 7), (tick, 1, 8)])
            self.assert_phases([(config, count), (new, 3), (config, 3)], [(9 * k, k % 2, k) for k in range(500)])

    def test_the_attributes_of_a_changed_machine(self):
        config = alone(COUNTER, 200, devices=[0])
        inputs = [(5, 0, 1), (600, 0, 2), (711, 0, 3), (900, 0, 4)]
        machine = booted(config, inputs)
        run_frames(machine, config, 1)
        found = machine_changed(machine, config, changed(config, frames=[(0, 128)]))
        self.assertEqual((found.tick, found.given, found.inputs, found.mode), (711, 2, inputs, "kernel"))
        self.assertEqual(found.specials[5], 711)
        self.assertEqual(rest_state(found, config)[1], ((2, 0, 1, 2) + (0,) * 12,))

    def test_a_second_change_at_once(self):
        # No frame of the second configuration has run: the last frame that has ended is one of the first.
        config = pair(SENDER, RECEIVER, [(0, 700), (1, 300)], [(0, 1, 2, True)], (), [1])
        other, third = changed(config, frames=[(1, 300)]), changed(config, frames=[(1, 200), (0, 128)], channels=[])
        for count in (0, 1, 2):
            for inputs in ((), [(300 * k, 0, k) for k in range(20)]):
                self.assert_phases([(config, count), (other, 0), (third, 3), (config, 2)], inputs)
            machine = booted(config, [])
            run_frames(machine, config, count)
            at_once = machine_changed(machine_changed(machine, config, other), other, third)
            plain = plain_changed(plain_changed(run_plain(config, [], count), other), third)
            plain.run_frame()
            Watcher(at_once, third).run(plain.tick + 255)
            self.assertEqual(saved_machine(at_once, third), saved_plain(plain))

    def test_changes_about_the_tick_65536(self):
        config = alone(ASKER, 4000)
        for first in (3000, 3150, 3300, 3404, 3405, 3406, 3500):
            long = changed(config, frames=[(None, 4000)] * 14 + [(0, first), (None, 200)])
            self.assert_phases([(long, 15), (changed(config, frames=[(0, 300)]), 3), (config, 1)], saved=True)

    def test_loaded_systems_are_changed(self):
        config = pair(SENDER, RECEIVER, [(0, 700), (1, 300)], [(0, 1, 2, True)], (), [1])
        new = changed(config, frames=[(1, 300), (0, 400)], channels=[(0, 1, 2, True)] * 2)
        numbers = saved_plain(run_plain(config, [], 3))
        inputs = [(numbers[0] + 100 * k, 0, k) for k in range(20)]
        plain, machine = loaded_plain(numbers, inputs), loaded_machine(numbers, inputs)
        plain, machine = plain_changed(plain, new), machine_changed(machine, config, new)
        for _ in range(3):
            plain.run_frame()
        watcher = Watcher(machine, new)
        watcher.run(plain.tick + 255)
        self.assertEqual(saved_machine(machine, new), saved_plain(plain))
        self.assertEqual(watcher.traces, [plain.trace(p) for p in (0, 1)])
        # What is changed can be saved, restarted and loaded.
        again = restarted(saved_plain(plain), 0)
        self.assertEqual(loaded_plain(again, []).state(0), Plain(new, []).state(0))

    def test_many_changes(self):
        for number in range(40):
            source = random.Random(number)
            config = some_config(number, wild=number % 4 == 0)
            other = some_other(source, config)
            third = some_other(source, other)
            inputs = sorted((source.randrange(9000), source.randrange(len(config.devices)), source.randrange(65536))
                            for _ in range(40) if config.devices)
            self.assert_phases([(config, source.randrange(6)), (other, source.randint(1, 6)), (third, 4)], inputs)


class HistoriesThroughTest(unittest.TestCase):
    def setUp(self):
        three = [Partition([1], 1, 0), Partition([2], 1, 0), Partition([3], 1, 0)]
        self.config = taken(Config(three, [(0, 200), (1, 200)], [], [], [0, 1, 2], [(0, 1)]))
        self.other = changed(self.config, frames=[(1, 200), (2, 300), (0, 200)], flows=[(1, 2)])

    def unlike(self, first, second, inputs=(), others=()):
        """For each partition, the number of entries at which the histories are equal, from the first one on."""
        book = Book()
        one, other = histories_through(first, list(inputs), book), histories_through(second, list(others), book)
        found = []
        for p in range(3):
            equal = [a[p] == b[p] for a, b in zip(one, other)]
            many = equal.index(False) if False in equal else len(equal)
            self.assertTrue(not any(equal[many:]))
            found.append(many)
        return found

    def test_one_phase(self):
        book = Book()
        inputs = [(3, 0, 5), (700, 2, 6)]
        self.assertEqual(histories_through([(self.config, 5)], inputs, book), histories(self.config, inputs, 5, book))

    def test_the_form(self):
        rows = histories_through([(self.config, 2), (self.other, 3), (self.config, 1)], [], Book())
        self.assertEqual((type(rows), [type(row) for row in rows], [len(row) for row in rows]),
                         (list, [list] * 7, [3] * 7))

    def test_the_first_phase_is_as_without_a_change(self):
        book = Book()
        inputs = [(3, 0, 5), (700, 2, 6)]
        rows = histories_through([(self.config, 2), (self.other, 3)], inputs, book)
        self.assertEqual(rows[:3], histories(self.config, inputs, 2, book))

    def test_every_history_becomes_another_one_with_the_change(self):
        book = Book()
        rows = histories_through([(self.config, 2), (self.config, 1)], [], book)
        straight = histories(self.config, [], 3, book)
        for p in range(3):
            self.assertNotEqual(rows[3][p], straight[3][p])
            self.assertNotEqual(rows[3][p], rows[2][p])

    def test_the_new_configuration_is_part_of_it(self):
        phases = [(self.config, 2), (self.other, 3)]
        third = changed(self.other, frames=[(1, 200), (2, 300), (0, 201)])
        self.assertEqual(self.unlike(phases, phases), [6, 6, 6])
        self.assertEqual(self.unlike(phases, [(self.config, 2), (third, 3)]), [3, 3, 3])
        starts = changed(self.other, partitions=[Partition([1], 1, 1), *self.other.partitions[1:]])
        self.assertEqual(self.unlike(phases, [(self.config, 2), (starts, 3)]), [3, 3, 3])

    def test_the_new_images_play_no_part(self):
        phases = [(self.config, 2), (self.other, 3)]
        images = with_images(self.other, [[7], [8], [9]])
        self.assertEqual(self.unlike(phases, [(self.config, 2), (images, 3)]), [6, 6, 6])

    def test_an_image_flows_by_the_new_policy(self):
        # From 0 to 1 in the second frame of the first phase; over 1 to 2 in the first one of the second phase.
        first = with_images(self.config, [[9], [2], [3]])
        phases = [(self.config, 2), (self.other, 3)]
        self.assertEqual(self.unlike(phases, [(first, 2), (self.other, 3)]), [0, 1, 3])
        # Without a flow from 1 to 2 it does not come there, and without one from 0 to 1 not to 1.
        none = changed(self.other, flows=[])
        self.assertEqual(self.unlike([(self.config, 2), (none, 3)], [(first, 2), (none, 3)]), [0, 1, 6])

    def test_inputs_around_the_change(self):
        # The frames of the first phase end at 456 and 912; those of the second one at 1624, 2180 and 2636.
        phases = [(self.config, 2), (self.other, 3)]
        for tick, entry in ((0, 1), (455, 1), (456, 2), (911, 2), (912, 3), (1200, 3), (1423, 3), (1424, 3), (1623, 3),
                            (1624, 4), (2179, 4), (2180, 5), (2635, 5), (2636, 6)):
            found = self.unlike(phases, phases, [(tick, 2, 7)], [])
            self.assertEqual(found, [6, 6, entry], tick)

    def test_frames_are_numbered_from_0_again(self):
        book = Book()
        rows = histories_through([(self.config, 1), (self.config, 2)], [], book)
        self.assertEqual(len({row[0] for row in rows}), 3)
        # The second phase of two systems whose first ones are equal.
        self.assertEqual(histories_through([(self.config, 1), (self.config, 2)], [], book), rows)

    def test_what_is_passed_stays(self):
        phases, inputs = [(self.config, 2), (self.other, 3)], [(3, 0, 5), (700, 2, 6)]
        histories_through(phases, inputs, Book())
        self.assertEqual((phases, inputs), ([(self.config, 2), (self.other, 3)], [(3, 0, 5), (700, 2, 6)]))

    def test_equal_histories_have_equal_views(self):
        found = 0
        for number in range(40):
            source = random.Random(number)
            first = some_policy_config(number)
            many = len(first.partitions)
            configs = [first]
            while len(configs) < 3:
                shape = some_shape_with_policy(source)
                other = Config([Partition([], each.pages, 0) for each in first.partitions], *shape.fields()[1:4],
                               first.devices, shape.flows)
                if can_change(first, other):
                    configs.append(other)
            phases = [(config, source.randint(1, 5)) for config in configs]
            q = source.randrange(many)
            images = [each.image for each in first.partitions]
            images[q] = some_images(source, first)[q]
            others = [(with_images(first, images), phases[0][1]), *phases[1:]]
            inputs = sorted((source.randrange(6000), source.randrange(len(first.devices)), source.randrange(65536))
                            for _ in range(15) if first.devices)
            less = [each for each in inputs if first.devices[each[1]] != q or source.random() < 0.5]
            book = Book()
            one, other = histories_through(phases, inputs, book), histories_through(others, less, book)
            plain, another, at = Plain(first, inputs), Plain(others[0][0], less), 0
            for index, (config, count) in enumerate(phases):
                if index > 0:
                    plain, another = plain_changed(plain, config), plain_changed(another, config)
                for _ in range(count):
                    plain.run_frame()
                    another.run_frame()
                    at += 1
                    for p in range(many):
                        if one[at][p] == other[at][p]:
                            self.assertEqual(view(plain, p), view(another, p), (number, at, p))
                            found += index > 0
        self.assertGreater(found, 100)


if __name__ == "__main__":
    unittest.main()
