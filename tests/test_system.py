"""merestone.system: chapters 09 and 10: the machine with its kernel does what the plain system says."""

import unittest

from merestone.codes import KERNEL_ONLY, encode
from merestone.config import Config, Partition, frame_start, page_map
from merestone.kernelcode import kernel_of, layout_of
from merestone.kerneltext import NAMED
from merestone.machine import Machine, resumed
from merestone.plain import Plain, run_plain
from merestone.system import Watcher, booted, partition_state, rest_state, run_frames
from systems import (
    COUNTER, RECEIVER, SENDER, SLEEPER, after, all_flows, alone, pair, program, some_config, some_inputs, taken,
)


def states(machine, config):
    return [partition_state(machine, config, p) for p in range(len(config.partitions))]


def plain_states(plain):
    return [plain.state(p) for p in range(len(plain.config.partitions))]


def comes_between(inputs, config, number):
    """True if an input comes between the end of the last frame and the tick before a frame begins."""
    begin = frame_start(config, number)
    return any(begin - 256 <= tick < begin - 1 for tick, _, _ in inputs)


class SystemTest(unittest.TestCase):
    def assert_same(self, config, inputs=(), count=4):
        """The machine tells what the plain system tells, frame by frame; run at once, it does the same."""
        taken(config)
        inputs = list(inputs)
        plain = Plain(config, inputs)
        machine = booted(config, inputs)
        watcher = Watcher(machine, config)
        for number in range(count + 1):
            watcher.run(frame_start(config, number) - 1)
            self.assertEqual((machine.tick, machine.mode), (frame_start(config, number) - 1, "kernel"))
            self.assertEqual(states(machine, config), plain_states(plain))
            self.assertEqual(watcher.traces, [plain.trace(p) for p in range(len(config.partitions))])
            shares, devices, channels = rest_state(machine, config)
            expected = plain.rest()
            self.assertEqual((shares, channels), (expected[0], expected[2]))
            if not comes_between(inputs, config, number):
                self.assertEqual(devices, expected[1])
            plain.run_frame()
        other = booted(config, inputs)
        run_frames(other, config, count)
        self.assertEqual(other.state(), machine.state())
        return machine


class ScenariosTest(SystemTest):
    """The edges that the document names, one by one."""

    def test_one_partition(self):
        self.assert_same(alone(COUNTER, 200))
        self.assert_same(alone(COUNTER, 128, 129, 4000, 1000), count=9)

    def test_idle_frames_alone(self):
        self.assert_same(taken(Config([COUNTER], [(None, 128), (None, 4000)], [], [], [], [])), count=5)

    def test_idle_frames_for_more_than_65536_ticks(self):
        config = taken(Config([COUNTER], [(None, 4000)] * 15 + [(0, 128)], [], [], [], []))
        self.assert_same(config, count=33)

    def test_a_partition_that_rests_for_more_than_65536_ticks(self):
        text = "loop: call 3\nadd r1, r1, r0\ncall 0\nbeq r2, r2, loop"
        config = taken(Config([program(text)], [(0, 4000)] + [(None, 4000)] * 15, [], [], [], []))
        self.assert_same(config, count=33)
        config = taken(Config([program("halt"), program(text)], [(1, 4000)] + [(0, 4000)] * 15, [], [], [], []))
        self.assert_same(config, count=33)

    def test_a_long_frame_ahead_of_others(self):
        self.assert_same(pair(COUNTER, SENDER, [(0, 4000), (None, 4000), (1, 4000)], [(1, 0, 8, False)]), count=7)

    def test_a_partition_without_a_frame(self):
        self.assert_same(pair(COUNTER, SENDER, [(0, 200)], [(1, 0, 8, False)]))

    def test_every_trap(self):
        texts = [
            "halt", "word 1", "word 65535", "set r1, 16\njump r1", "set r1, 128\njump r1", "set r1, 65535\njump r1",
            "load r1, r2, 15\nload r1, r1, 15", "set r3, 65535\nload r1, r3, 0", "set r3, 16\nstore r1, r3, 0",
            "set r3, 128\nstore r1, r3, 0", "\n".join(["copy r1, r1"] * 16),
        ]
        texts += [f"addi r1, r1, 1\nword {encode(op, 0, 0, 0)}" for op in KERNEL_ONLY]
        for text in texts:
            machine = self.assert_same(pair(program(text), COUNTER, [(0, 200), (1, 200), (0, 128)]), count=5)
            self.assertEqual(machine.mode, "kernel")
        for image in ([encode("copy", 0, 0, 0)] * 15 + [encode("set", 0, 0, 0)], [0] * 16):
            self.assert_same(alone(Partition(image, 1, 0), 200))
            self.assert_same(alone(Partition(image, 1, 15), 200))

    def test_every_call_at_every_distance_from_the_end(self):
        for number in range(16):
            for many in (0, 1, 30, 31, 32, 33, 34, 100, 126, 127):
                text = after(many, f"call {number}")
                self.assert_same(alone(program(text, 8), 128), count=3)

    def test_calls_at_the_end_of_other_frames(self):
        for ticks in (128, 129, 200, 223, 224, 225, 320, 321, 4000):
            for number in (0, 1, 2, 3):
                text = f"loop: addi r2, r2, 1\ncall {number}\nadd r4, r4, r0\nbeq r3, r3, loop"
                self.assert_same(pair(program(text), SENDER, [(0, ticks), (1, 300)], [(1, 0, 2, True)]), count=5)

    def test_traps_at_the_end_of_a_frame(self):
        for many in (125, 126, 127):
            for text in ("halt", "word 65535", "load r1, r2, 15"):
                self.assert_same(alone(program(after(many, text), 8), 128), count=3)

    def test_channels_that_are_full_and_empty(self):
        for told in (True, False):
            for capacity in (1, 2, 7, 8):
                for frames in ([(0, 4000), (1, 128)], [(0, 128), (1, 4000)], [(0, 1000), (1, 700), (0, 300)]):
                    config = pair(SENDER, RECEIVER, frames, [(0, 1, capacity, told)])
                    self.assert_same(config, count=7)

    def test_channels_of_others_and_numbers_that_are_none(self):
        for number in (0, 1, 2, 3, 11, 12, 13, 255, 4095, 4096, 4097, 8192, 32768, 65534, 65535):
            text = (f"loop: set r0, {number}\naddi r1, r1, 1\ncall 1\nadd r5, r5, r0\nset r0, {number}\ncall 2\n"
                    "add r6, r6, r0\nset r7, 0\njump r7")
            for channels in ([], [(0, 1, 2, True), (1, 0, 2, False), (1, 0, 1, True)]):
                config = pair(program(text), program(text), [(0, 700), (1, 700)], channels)
                self.assert_same(config, count=6)

    def test_the_number_of_the_frame(self):
        text = "loop: call 3\nadd r1, r1, r0\nstore r0, r2, 15\ncall 0\nbeq r2, r2, loop"
        self.assert_same(pair(program(text), program(text), [(0, 400), (None, 128), (1, 222), (0, 200)]), count=20)

    def test_numbers_of_frames_from_65535_on(self):
        # The number is set by hand in both systems: 65536 frames would take too long.
        config = alone(program("loop: call 3\nadd r1, r1, r0\ncall 0\nbeq r2, r2, loop"), 300)
        machine, plain = booted(config, []), Plain(config, [])
        machine.memory[NAMED["VARIABLES"] + NAMED["NUMBER"]] = 65535
        plain.number = 65535
        for number in range(1, 4):
            run_frames(machine, config, number)
            plain.run_frame()
            self.assertEqual(states(machine, config), plain_states(plain))
            self.assertEqual(partition_state(machine, config, 0)[0][0], (65534 + number) % 65536)

    def test_all_registers_are_kept(self):
        text = "loop: " + "\n".join(f"addi r{k}, r{k}, {k - 3}" for k in range(8)) + "\nset r7, 0\njump r7"
        other = "loop: " + "\n".join(f"addi r{k}, r{k}, {4 - k}" for k in range(7)) + "\nset r7, 0\njump r7"
        self.assert_same(pair(program(text), program(other), [(0, 200), (1, 150), (0, 131)]), count=9)

    def test_shares(self):
        writer = program("set r1, 16\nloop: addi r2, r2, 1\nstore r2, r1, 3\nload r4, r1, 3\nbeq r0, r0, loop")
        reader = program("set r1, 16\nloop: load r2, r1, 3\nadd r3, r3, r2\nbeq r0, r0, loop")
        config = pair(writer, reader, [(0, 200), (1, 200)], (), [(0, 1)])
        self.assert_same(config, count=6)
        self.assert_same(pair(reader, writer, [(0, 200), (1, 200)], (), [(0, 1), (1, 0)]), count=6)

    def test_reader_and_device_pages_are_not_written(self):
        for text in ("set r1, 16\nstore r1, r1, 0", "set r1, 32\nstore r1, r1, 0", "set r1, 16\njump r1",
                     "set r1, 32\njump r1", "set r1, 48\nload r1, r1, 0"):
            config = pair(COUNTER, program(text), [(0, 200), (1, 200)], (), [(0, 1)], [1])
            self.assert_same(config)

    def test_inputs(self):
        reads = program("set r1, 16\nloop: load r2, r1, 0\nload r3, r1, 2\nadd r4, r4, r3\nbeq r0, r0, loop")
        config = pair(reads, reads, [(0, 200), (1, 200), (None, 128)], (), (), [0, 1])
        for tick in (0, 254, 255, 256, 257, 258, 300, 455, 456, 457, 500, 711, 712, 713, 911, 912, 1167, 1168, 1300):
            for device in (0, 1):
                self.assert_same(config, [(tick, device, 7)], 4)
        self.assert_same(config, [(10 * k, k % 2, k) for k in range(130)], 6)
        self.assert_same(config, [(300, 0, k) for k in range(15)] + [(301, 1, k) for k in range(15)], 4)

    def test_inputs_while_a_call_is_served(self):
        text = "set r1, 16\nloop: call 3\nload r2, r1, 0\nload r3, r1, 2\nbeq r4, r4, loop"
        for tick in (257, 258, 300, 351, 352, 353, 354):
            self.assert_same(alone(program(text), 200, devices=[0]), [(tick, 0, 9)], 3)

    def test_inputs_behind_the_end_of_a_frame(self):
        # The machine takes them as they come, the plain system with its next frame.
        config = alone(COUNTER, 200, devices=[0])
        inputs = [(455, 0, 1), (456, 0, 2), (710, 0, 3), (711, 0, 4), (712, 0, 5)]
        machine = booted(config, inputs)
        run_frames(machine, config, 1)
        self.assertEqual((rest_state(machine, config)[1][0][:5], machine.given), ((3, 0, 1, 2, 3), 3))
        self.assertEqual(run_plain(config, inputs, 1).rest()[1][0][:4], (1, 0, 1, 0))

    def test_a_partition_that_changes_itself(self):
        text = "loop: load r1, r0, 3\naddi r1, r1, 1\nstore r1, r0, 3\nset r2, 7\nadd r3, r3, r2\nset r4, 0\njump r4"
        self.assert_same(alone(program(text), 300), count=3)

    def test_frames_of_128_and_of_4000_ticks(self):
        for frames in ([(0, 128), (1, 4000)], [(0, 4000), (1, 128)], [(0, 128)] * 8 + [(1, 128)] * 8):
            self.assert_same(pair(SENDER, RECEIVER, frames, [(0, 1, 5, True)]), count=18)

    def test_ticks_beyond_65536(self):
        config = pair(SENDER, RECEIVER, [(0, 4000), (1, 4000), (None, 3000)], [(0, 1, 8, True)])
        machine = self.assert_same(config, count=22)
        self.assertGreater(machine.tick, 65536)
        config = alone(program("loop: call 3\nadd r1, r1, r0\nset r0, 0\nload r0, r0, 1\nbeq r2, r2, loop"), 3840)
        self.assertGreater(self.assert_same(config, count=34).tick, 2 * 65536)

    def test_frames_that_begin_and_end_about_the_tick_65536(self):
        # The first frames end at different ticks ahead of 65536.
        for ticks in range(128, 1200, 67):
            frames = [(None, 4000)] * 15 + [(0, ticks)]
            text = "loop: addi r2, r2, 1\ncall 3\nadd r4, r4, r0\nbeq r3, r3, loop"
            config = taken(Config([program(text)], frames, [], [], [], []))
            machine, plain = booted(config, []), run_plain(config, [], 17)
            run_frames(machine, config, 17)
            self.assertEqual(states(machine, config), plain_states(plain))
        for first in range(3700, 3720):
            frames = [(None, 4000)] * 14 + [(None, first), (0, 2000)]
            self.assertTrue(62000 < frame_start(taken(Config([COUNTER], frames, [], [], [], [])), 15) < 66000)
            config = taken(Config([program("loop: call 3\naddi r1, r1, 1\nbeq r2, r2, loop")], frames, [], [], [], []))
            machine, plain = booted(config, []), run_plain(config, [], 16)
            watcher = Watcher(machine, config)
            watcher.run(frame_start(config, 16) - 1)
            self.assertEqual((states(machine, config), watcher.traces), (plain_states(plain), [plain.trace(0)]))


class ManyTest(SystemTest):
    def test_many_configurations(self):
        for number in range(60):
            config = some_config(number)
            self.assert_same(config, some_inputs(config, 12, number * 3 % 80, number), 12)

    def test_programs_of_any_instructions(self):
        for number in range(60):
            config = some_config(number, wild=True)
            self.assert_same(config, some_inputs(config, 6, number % 20, number), 6)

    def test_the_largest_configurations(self):
        for number in range(6):
            config = some_config(number, largest=True)
            counts = [len(each) for each in config.fields()]
            self.assertEqual(counts, [8, 16, 12, 6, 6, 56])
            self.assert_same(config, some_inputs(config, 34, 200, number), 34)

    def test_partitions_that_see_8_pages(self):
        shares = [(0, 1), (1, 0), (2, 3), (3, 2), (0, 1), (1, 0)]
        partitions = []
        for p, pages in enumerate((2, 3, 5, 5, 8, 8, 8, 7)):
            # It loads a word of each of the 8 pages, stores their sum, sends it, and receives.
            text = ("set r5, 133\ntop: set r1, 5\nloop: load r2, r1, 0\nadd r3, r3, r2\naddi r1, r1, 7\n"
                    "addi r1, r1, 7\naddi r1, r1, 2\nbne r1, r5, loop\n"
                    f"set r4, 30\nstore r3, r4, 0\ncopy r1, r3\nset r0, {p}\ncall 1\n"
                    f"set r0, {(p + 7) % 8}\ncall 2\nadd r3, r3, r1\nset r6, top\njump r6")
            partitions.append(program(text, pages))
        config = taken(Config(
            partitions, [(k % 8, 300 + k) for k in range(16)], [(k % 8, (k + 1) % 8, 8, k % 2 == 0) for k in range(12)],
            shares, [0, 1, 2, 3, 0, 7], all_flows(8)))
        self.assertEqual([len(page_map(config, p)) for p in range(8)], [8] * 8)
        self.assert_same(config, some_inputs(config, 40, 300), 40)
        self.assertEqual([run_plain(config, [], 40).state(p)[2] for p in range(8)], [None] * 8)

class BootedTest(unittest.TestCase):
    def test_the_first_tick(self):
        config = pair(COUNTER, COUNTER, [(0, 200)], (), [(0, 1)], [1, 0])
        inputs = [(5, 0, 7)]
        machine = booted(config, inputs)
        self.assertIsInstance(machine, Machine)
        self.assertEqual((machine.memory, machine.inputs), (kernel_of(config), inputs))
        layout = layout_of(config)
        self.assertEqual(machine.rings, [16 * layout.page(0, "device", k) for k in (0, 1)])
        self.assertEqual((machine.tick, machine.mode, machine.pc, machine.given), (0, "kernel", 0, 0))

    def test_run_frames_returns_nothing_and_stops_in_time(self):
        config = alone(COUNTER, 200, 300)
        machine = booted(config, [])
        self.assertIsNone(run_frames(machine, config, 0))
        self.assertEqual(machine.tick, 255)
        for count in (1, 2, 2, 5):
            run_frames(machine, config, count)
            self.assertEqual((machine.tick, machine.mode), (frame_start(config, count) - 1, "kernel"))

    def test_the_first_instruction_is_begun_in_its_tick(self):
        machine = booted(alone(COUNTER, 200), [])
        machine.run(256)
        self.assertEqual((machine.mode, machine.pc, machine.tick), ("user", 0, 256))
        machine.run(200)
        self.assertEqual((machine.mode, machine.user[1], machine.tick), ("user", 100, 456))
        machine.run(1)
        self.assertEqual((machine.mode, machine.specials[1], machine.specials[6]), ("kernel", 6, 456))

    def test_states_before_the_first_frame(self):
        config = pair(Partition([7, 8], 2, 3), COUNTER, [(0, 200)], [(0, 1, 2, True)], [(0, 1)], [1])
        machine, plain = booted(config, []), Plain(config, [])
        run_frames(machine, config, 0)
        self.assertEqual((states(machine, config), rest_state(machine, config)), (plain_states(plain), plain.rest()))

    def test_kinds_of_values(self):
        config = pair(SENDER, program("halt"), [(0, 300), (1, 200)], [(0, 1, 2, True)], [(0, 1)], [1])
        machine = booted(config, [])
        run_frames(machine, config, 2)
        registers, place, end, own = partition_state(machine, config, 1)
        kinds = [type(part) for part in (registers, place, end, own, own[0])]
        self.assertEqual(kinds, [tuple, int, tuple, tuple, tuple])
        self.assertEqual(end, (5, 0))
        self.assertIsNone(partition_state(machine, config, 0)[2])
        rest = rest_state(machine, config)
        for part in (rest, *rest, rest[0][0], rest[1][0], rest[2][0]):
            self.assertIs(type(part), tuple)

    def test_the_machine_stays_when_it_is_asked(self):
        config = pair(SENDER, SLEEPER, [(0, 300), (1, 200)], [(0, 1, 2, True)], [(0, 1)], [1])
        machine = booted(config, [(3, 0, 4)])
        run_frames(machine, config, 3)
        before = machine.state()
        states(machine, config)
        rest_state(machine, config)
        self.assertEqual(machine.state(), before)


class WatcherTest(unittest.TestCase):
    def test_traces(self):
        config = pair(COUNTER, SLEEPER, [(0, 200), (1, 200)])
        machine = booted(config, [])
        watcher = Watcher(machine, config)
        self.assertEqual(watcher.traces, [[], []])
        self.assertIsNone(watcher.run(258))
        self.assertEqual(machine.tick, 258)
        self.assertEqual(watcher.traces, [[(256, 0, (0,) * 8), (257, 1, (0, 1, 0, 0, 0, 0, 0, 0))], []])
        watcher.run(712)
        self.assertEqual((len(watcher.traces[0]), watcher.traces[1]), (200, []))
        watcher.run(713)
        self.assertEqual(watcher.traces[1], [(712, 0, (0,) * 8)])
        watcher.run(100)
        self.assertEqual(machine.tick, 713)

    def test_from_now_on(self):
        config = alone(COUNTER, 200)
        machine = booted(config, [])
        machine.run(300)
        watcher = Watcher(machine, config)
        watcher.run(800)
        self.assertEqual(watcher.traces, [run_plain(config, [], 2).trace(0)[44:200 + 88]])

    def test_an_instruction_is_begun_in_each_tick_of_user_mode_but_in_that_of_the_alarm(self):
        config = pair(SENDER, RECEIVER, [(0, 300), (1, 300)], [(0, 1, 2, True)])
        machine = booted(config, [])
        begun = 0
        for _ in range(3000):
            if machine.mode == "user" and machine.tick % 65536 != machine.specials[4]:
                begun += 1
            machine.step()
        watcher = Watcher(booted(config, []), config)
        watcher.run(3000)
        self.assertEqual(sum(len(each) for each in watcher.traces), begun)

    def test_a_broken_machine(self):
        config = alone(COUNTER, 200)
        state = booted(config, []).state()
        machine = resumed(("broken", *state[1:]), [], [])
        Watcher(machine, config).run(500)
        self.assertEqual(machine.state(), ("broken", *state[1:]))


class NeverBrokenTest(unittest.TestCase):
    def test_it_never_breaks(self):
        for number in range(20):
            config = some_config(number, wild=True)
            machine = booted(config, [])
            machine.run(20000)
            self.assertNotEqual(machine.mode, "broken")
            self.assertEqual(machine.tick, 20000)

    def test_other_pages_are_not_touched(self):
        # The second partition stores into all addresses; the pages of the first one stay.
        text = "loop: store r1, r2, 0\naddi r1, r1, 1\naddi r2, r2, 1\nbeq r0, r0, loop"
        config = pair(Partition([9] * 16, 1, 0), program(text), [(1, 4000)])
        machine = booted(config, [])
        run_frames(machine, config, 2)
        self.assertEqual(partition_state(machine, config, 0), ((0,) * 8, 0, None, ((9,) * 16,)))


if __name__ == "__main__":
    unittest.main()
