"""merestone.saving: chapter 14."""

import random
import unittest

from merestone.config import GAP, Config, Partition, frame_start, sources_of
from merestone.errors import BadState
from merestone.judging import judge
from merestone.plain import Plain, run_plain
from merestone.saving import config_of, loaded_machine, loaded_plain, restarted, saved_machine, saved_plain
from merestone.system import Watcher, booted, partition_state, rest_state, run_frames
from merestone.views import alone as runs_alone, border, view
from systems import (
    COUNTER, RECEIVER, SENDER, SLEEPER, alone, pair, program, some_config, some_inputs, some_policy_config, taken,
)

ZEROS = [0] * 8
READS = program("set r1, 16\nloop: load r2, r1, 0\nload r3, r1, 2\nadd r4, r4, r3\nbeq r0, r0, loop")


def plain_states(plain):
    return [plain.state(p) for p in range(len(plain.config.partitions))]


def states(machine, config):
    return [partition_state(machine, config, p) for p in range(len(config.partitions))]


class SavingTest(unittest.TestCase):
    def assert_goes_on(self, numbers, inputs=(), count=3):
        """A saved system goes on the same way, plain and as a machine, and is saved as the same numbers."""
        inputs = list(inputs)
        config = config_of(numbers)
        plain, machine = loaded_plain(numbers, inputs), loaded_machine(numbers, inputs)
        self.assertEqual((machine.tick, machine.mode), (numbers[0] - 1, "kernel"))
        watcher = Watcher(machine, config)
        begin = numbers[0]
        for behind in range(count + 1):
            if behind > 0:
                plain.run_frame()
                begin += config.frames[(numbers[1] + behind - 1) % len(config.frames)][1] + GAP
                watcher.run(begin - 1)
            self.assertEqual((machine.tick, machine.mode), (begin - 1, "kernel"))
            self.assertEqual(states(machine, config), plain_states(plain))
            self.assertEqual(watcher.traces, [plain.trace(p) for p in range(len(config.partitions))])
            self.assertEqual((rest_state(machine, config)[0], rest_state(machine, config)[2]),
                             (plain.rest()[0], plain.rest()[2]))
            self.assertEqual(saved_plain(plain), saved_machine(machine, config))
            if behind == 0:
                self.assertEqual(saved_plain(plain), numbers)
        return plain

    def assert_saved(self, config, inputs=(), count=4, more=4):
        """Plain and machine are saved as the same numbers behind each frame, and go on as the system that was saved."""
        inputs = list(inputs)
        plain, machine = Plain(config, inputs), booted(config, inputs)
        whole = run_plain(config, inputs, count + more)
        for behind in range(count + 1):
            run_frames(machine, config, behind)
            numbers = saved_machine(machine, config)
            self.assertEqual(numbers, saved_plain(plain), behind)
            self.assertTrue(all(type(number) is int for number in numbers))
            begin = frame_start(config, behind)
            self.assertEqual(numbers[:3], [begin, behind % len(config.frames), behind % 65536])
            self.assertEqual(config_of(numbers), config)
            later = [each for each in inputs if each[0] >= begin - 1]
            self.assert_goes_on(numbers, later, 2)
            loaded = loaded_plain(numbers, later)
            for _ in range(count + more - behind):
                loaded.run_frame()
            self.assertEqual((plain_states(loaded), loaded.rest(), loaded.tick),
                             (plain_states(whole), whole.rest(), whole.tick))
            self.assertEqual([plain.trace(p) + loaded.trace(p) for p in range(len(config.partitions))],
                             [whole.trace(p) for p in range(len(config.partitions))])
            self.assertEqual(plain.events + loaded.events, whole.events)
            plain.run_frame()


class SavedTest(SavingTest):
    def test_example(self):
        plain = Plain(Config([Partition([7], 1, 0)], [(0, 200)], [], [], [], []), [])
        numbers = saved_plain(plain)
        self.assertEqual([numbers[:14], numbers[14:26], len(numbers), restarted(numbers, 0) == numbers], [
            [256, 0, 0, 1, 1, 0, 1, 7, 1, 1, 200, 0, 0, 0], [0, 0, 0, 0, 0, 0, 0, 0, 0, 0, 0, 0], 43, True])

    def test_every_number(self):
        sender = program("loop: addi r1, r1, 5\nset r0, 0\ncall 1\nset r2, 32\nstore r1, r2, 4\nhalt", 2)
        config = taken(Config(
            [sender, Partition([9, 8], 1, 3)], [(0, 400), (None, 150), (1, 128)], [(0, 1, 2, True), (0, 1, 3, False)],
            [(0, 1)], [1, 0], [(0, 1), (1, 0)]))
        numbers = saved_plain(run_plain(config, [(300, 0, 77)], 2))
        image = list(sender.image)
        begin = 256 + 400 + 256 + 150 + 256
        self.assertEqual(numbers, [
            begin, 2, 2,
            2, 2, 0, len(image), *image, 1, 3, 2, 9, 8,
            3, 1, 400, 0, 150, 2, 128,
            2, 0, 1, 2, 1, 0, 1, 3, 0,
            1, 0, 1,
            2, 0, 1, 1, 0,
            2, 1, 0,
            1, 5, 32, 0, 0, 0, 0, 0, 7, 1, 5, 0, *image, *[0] * (32 - len(image)),
            *ZEROS, 3, 0, 0, 0, 9, 8, *[0] * 14,
            *[0] * 4, 5, *[0] * 11,
            1, 0, 77, *[0] * 13, *[0] * 16,
            1, 5, 0])

    def test_systems_behind_some_frames(self):
        self.assert_saved(alone(COUNTER, 200))
        self.assert_saved(alone(COUNTER, 200, 128, 300), count=7)
        self.assert_saved(taken(Config([COUNTER], [(None, 128), (0, 130)], [], [], [], [])), count=5)
        self.assert_saved(taken(Config([COUNTER], [(None, 128)], [], [], [], [])))

    def test_ends(self):
        texts = ["halt", "word 1", "set r1, 99\njump r1", "load r1, r2, 15\nload r1, r1, 15",
                 "set r3, 65535\nload r1, r3, 0", *[f"call {number}" for number in range(4, 16)]]
        for text in texts:
            self.assert_saved(pair(program(text), COUNTER, [(0, 200), (1, 200)]), count=2, more=2)

    def test_channels(self):
        for told in (True, False):
            for capacity in (1, 2, 7, 8):
                config = pair(SENDER, RECEIVER, [(0, 1000), (1, 400), (0, 300)], [(0, 1, capacity, told)])
                self.assert_saved(config, count=4, more=2)
        empty = pair(SLEEPER, RECEIVER, [(0, 200), (1, 200)], [(0, 1, 3, True), (1, 0, 3, True)])
        self.assert_saved(empty)

    def test_a_channel_whose_first_word_is_anywhere(self):
        # The slots of the kernel are used in a circle: what is saved does not depend on where it begins.
        config = pair(SENDER, RECEIVER, [(0, 600), (1, 330)], [(0, 1, 8, False)])
        self.assert_saved(config, count=12, more=2)

    def test_shares_and_registers(self):
        text = "loop: " + "\n".join(f"addi r{k}, r{k}, {k - 3}" for k in range(7)) + "\nset r7, 0\njump r7"
        writer = program("set r1, 16\nloop: addi r2, r2, 1\nstore r2, r1, 3\nload r4, r1, 3\nbeq r0, r0, loop")
        self.assert_saved(pair(program(text, 2), COUNTER, [(0, 200), (1, 150)]))
        self.assert_saved(pair(writer, READS, [(0, 200), (1, 200)], (), [(0, 1)]))

    def test_inputs(self):
        config = pair(READS, READS, [(0, 200), (1, 200), (None, 128)], (), (), [0, 1])
        begin = frame_start(config, 1)
        for tick in (0, 255, 256, 455, 456, 457, 600, begin - 3, begin - 2, begin - 1, begin, begin + 1, begin + 199,
                     begin + 200):
            self.assert_saved(config, [(tick, 0, 7), (tick, 1, 8)], 2, 2)
        self.assert_saved(config, [(10 * k, k % 2, k) for k in range(300)], 3, 2)
        self.assert_saved(config, [(begin - 2 + k % 3, 1, k) for k in range(0, 3)], 2, 2)

    def test_inputs_in_the_gap(self):
        # Those that come before the tick before the next frame are taken in; the plain system stays as it is.
        config = alone(COUNTER, 200, devices=[0])
        inputs = [(455, 0, 1), (456, 0, 2), (710, 0, 3), (711, 0, 4), (712, 0, 5)]
        plain = run_plain(config, inputs, 1)
        numbers = saved_plain(plain)
        self.assertEqual(numbers[-16:-10], [3, 0, 1, 2, 3, 0])
        self.assertEqual(plain.rest()[1][0][:4], (1, 0, 1, 0))
        self.assertEqual(saved_plain(plain), numbers)

    def test_many_configurations(self):
        for number in range(25):
            config = some_config(number)
            self.assert_saved(config, some_inputs(config, 5, 10 * number, number), 4, 1)
        for number in range(15):
            self.assert_saved(some_config(number, wild=True), [], 3, 1)
        config = some_config(1, largest=True)
        self.assert_saved(config, some_inputs(config, 5, 40), 3, 1)

    def test_ticks_and_numbers_beyond_65535(self):
        config = pair(program("loop: call 3\nadd r1, r1, r0\ncall 0\nbeq r2, r2, loop"), SENDER,
                      [(0, 4000), (1, 300), (None, 3700)], [(1, 0, 8, True)])
        self.assert_saved(config, [], 26, 2)
        numbers = saved_plain(run_plain(config, [], 3))
        for number in (65533, 65534, 65535):
            changed = [numbers[0], 0, number, *numbers[3:]]
            plain = self.assert_goes_on(changed, [], 7)
            # The partition asks for the number in its frames, which are three apart.
            self.assertEqual(plain.trace(0)[-1][2][0], (number + 6) % 65536)
            self.assertEqual((saved_plain(plain)[2], plain.number), ((number + 7) % 65536, 7))

    def test_ticks_far_away(self):
        config = pair(SENDER, RECEIVER, [(0, 300), (1, 700)], [(0, 1, 2, True)], (), [0])
        numbers = saved_plain(run_plain(config, [], 3))
        for begin in (256, 257, 511, 65535, 65536, 65537, 65536 + 255, 65536 + 256, 131000, 10 ** 9, 10 ** 20):
            for back in (0, 1, 2, 30, 256, 257):
                if begin - back >= 256:
                    at = begin - back
                    self.assert_goes_on([at, *numbers[1:]], [(at - 1, 0, 5), (at, 0, 6), (at + 700, 0, 7)])

    def test_what_is_saved_stays(self):
        config = pair(SENDER, RECEIVER, [(0, 700), (1, 300)], [(0, 1, 2, True)], [(0, 1)], [1])
        plain = run_plain(config, [(3, 0, 4), (1200, 0, 5)], 1)
        machine = booted(config, [(3, 0, 4), (1200, 0, 5)])
        run_frames(machine, config, 1)
        before, other = (plain_states(plain), plain.rest(), plain.trace(0), plain.events[:]), machine.state()
        saved_plain(plain).clear()
        saved_machine(machine, config).clear()
        self.assertEqual((plain_states(plain), plain.rest(), plain.trace(0), plain.events), before)
        self.assertEqual(machine.state(), other)


class LoadedTest(SavingTest):
    def test_the_attributes_of_a_loaded_plain_system(self):
        config = alone(COUNTER, 200, 128, devices=[0])
        numbers = saved_plain(run_plain(config, [(300, 0, 9)], 5))
        plain = loaded_plain(numbers, [])
        self.assertEqual((plain.config, plain.number, plain.tick), (config, 1, numbers[0] - 256))
        self.assertEqual((plain.trace(0), plain.events), ([], []))
        plain.run_frame()
        self.assertEqual((plain.number, plain.tick), (2, numbers[0] + 128))

    def test_a_loaded_machine_runs_on_by_frames(self):
        config = pair(SENDER, RECEIVER, [(0, 700), (1, 300)], [(0, 1, 2, True)])
        machine = booted(config, [])
        run_frames(machine, config, 3)
        loaded = loaded_machine(saved_machine(machine, config), [])
        run_frames(machine, config, 6)
        run_frames(loaded, config, 6)
        self.assertEqual((loaded.tick, states(loaded, config)), (machine.tick, states(machine, config)))

    def test_the_inputs_of_a_loaded_machine(self):
        config = alone(COUNTER, 200, devices=[0])
        numbers = saved_plain(run_plain(config, [], 1))
        machine = loaded_machine(numbers, [(711, 0, 4), (711, 0, 5), (712, 0, 6)])
        self.assertEqual((machine.tick, machine.given), (711, 0))
        self.assertEqual(machine.inputs, [(711, 0, 4), (711, 0, 5), (712, 0, 6)])
        machine.step()
        self.assertEqual((machine.given, rest_state(machine, config)[1][0][:5]), (2, (2, 0, 4, 5, 0)))

    def test_what_is_passed_stays(self):
        config = alone(COUNTER, 200, devices=[0])
        numbers, inputs = saved_plain(run_plain(config, [], 1)), [(800, 0, 4)]
        copies = numbers[:], inputs[:]
        plain, machine = loaded_plain(numbers, inputs), loaded_machine(numbers, inputs)
        config_of(numbers)
        restarted(numbers, 0)
        plain.run_frame()
        machine.run(500)
        self.assertEqual((numbers, inputs), copies)
        numbers.clear()
        inputs.clear()
        plain.run_frame()
        self.assertEqual((plain.tick, plain.rest()[1][0][:3]), (1368, (1, 0, 4)))

    def test_the_never_run_kernel_words_do_not_matter(self):
        # A machine that is loaded and saved at once gives the numbers again.
        for number in range(10):
            numbers = saved_plain(run_plain(some_config(number), [], number))
            self.assertEqual(saved_machine(loaded_machine(numbers, []), config_of(numbers)), numbers)


def whole_numbers():
    """The numbers of a system with one of each thing, and where its parts begin."""
    config = taken(Config(
        [Partition([9, 8], 1, 3), Partition([19 * 1024], 2, 0)], [(0, 400), (None, 150), (1, 128)], [(0, 1, 2, True)],
        [(0, 1)], [1], [(0, 1), (1, 0)]))
    return config, saved_plain(Plain(config, []))


# The indexes of the first numbers of the parts.
PARTITIONS, FRAMES, CHANNELS, SHARES, FLOWS, DEVICES, FIRST, SECOND = 3, 13, 20, 25, 28, 33, 35, 63
SHARED, RING, QUEUE = 107, 123, 139


class BadStateTest(SavingTest):
    def setUp(self):
        self.config, self.numbers = whole_numbers()

    def assert_bad(self, why, numbers):
        for function in (lambda: loaded_plain(numbers, []), lambda: loaded_machine(numbers, []),
                         lambda: config_of(numbers), lambda: restarted(numbers, 0)):
            with self.assertRaises(BadState) as caught:
                function()
            self.assertEqual(caught.exception.why, why)

    def changed(self, *pairs):
        """The numbers with others at some indexes."""
        found = self.numbers[:]
        for index, number in pairs:
            found[index] = number
        return found

    def inserted(self, index, old, *more):
        """The numbers with others in the place of so many."""
        return self.numbers[:index] + list(more) + self.numbers[index + old:]

    def test_where_the_parts_begin(self):
        self.assertEqual([self.numbers[at] for at in (PARTITIONS, FRAMES, CHANNELS, SHARES, FLOWS, DEVICES)],
                         [2, 3, 1, 1, 2, 1])
        self.assertEqual(len(self.numbers), QUEUE + 1)
        self.assertEqual(self.numbers[FIRST + 8:FIRST + 14], [3, 0, 0, 0, 9, 8])
        self.assertEqual(self.numbers[SECOND + 8:SECOND + 13], [0, 0, 0, 0, 19 * 1024])
        self.assertEqual(config_of(self.numbers), self.config)

    def test_lists_that_are_cut_or_too_long(self):
        for end in range(len(self.numbers)):
            self.assert_bad("numbers", self.numbers[:end])
        for more in ([0], [1], [-1], [0] * 50):
            self.assert_bad("numbers", self.numbers + more)
        self.assert_bad("numbers", [])

    def test_counts(self):
        counts = (PARTITIONS, PARTITIONS + 1, PARTITIONS + 3, PARTITIONS + 6, PARTITIONS + 8, FRAMES, CHANNELS, SHARES,
                  FLOWS, DEVICES, QUEUE)
        for index in counts:
            for number in (-1, -2, -10 ** 30, 10 ** 30, len(self.numbers), len(self.numbers) - index,
                           len(self.numbers) - index - 1 + (index == QUEUE)):
                self.assert_bad("numbers", self.changed((index, number)))

    def test_counts_below_0_with_nothing_behind_them(self):
        # All other numbers are as if there was nothing: only the count is wrong.
        self.assert_bad("config", [256, 0, 0, 0, 0, 0, 0, 0, 0])
        for index in range(3, 9):
            for number in (-1, -2, -10 ** 30):
                self.assert_bad("numbers", [256, 0, 0, *[number if k == index else 0 for k in range(3, 9)]])
        for number, why in ((0, "config"), (-1, "numbers"), (-7, "numbers")):
            self.assert_bad(why, [256, 0, 0, 1, number, 0, 0, 0, 0, 0, 0, 0, *ZEROS, 0, 0, 0, 0])
            self.assert_bad("numbers", [256, 0, 0, 1, 0, 0, number - 1, 0, 0, 0, 0, 0, *ZEROS, 0, 0, 0, 0])

    def test_no_number_of_pages_is_no_end_of_the_list(self):
        # A partition without own pages has no words of its own: only the judge refuses it.
        self.assert_bad("config", self.inserted(FIRST + 12, 16)[:PARTITIONS + 1] + [0]
                        + self.inserted(FIRST + 12, 16)[PARTITIONS + 2:])

    def test_configurations_that_the_judge_refuses(self):
        for index, numbers in (
                (PARTITIONS + 2, (-1, 16, 10 ** 30)), (PARTITIONS + 4, (-1, 65536, 10 ** 30)),
                (PARTITIONS + 7, (32, -5)), (FRAMES + 1, (3, -1, 10 ** 30)), (FRAMES + 2, (127, 4001, -1)),
                (CHANNELS + 1, (1, 2, -1)), (CHANNELS + 2, (0, 2)), (CHANNELS + 3, (0, 9, -1)),
                (CHANNELS + 4, (2, -1, 10 ** 30)), (SHARES + 1, (1, 2)), (SHARES + 2, (0, -1)), (FLOWS + 1, (1, 7)),
                (FLOWS + 2, (0, -1)), (DEVICES + 1, (2, -1))):
            for number in numbers:
                self.assert_bad("config", self.changed((index, number)))

    def test_what_flows_against_the_policy(self):
        self.assert_bad("config", self.changed((FLOWS + 3, 0), (FLOWS + 4, 1)))
        for index, row in ((FLOWS, [1, 0, 1]), (FLOWS, [1, 1, 0]), (FLOWS, [0])):
            self.assert_bad("config", self.inserted(index, 5, *row))
        # Without telling, one direction is enough.
        quiet = self.changed((CHANNELS + 4, 0))
        quiet[FLOWS:FLOWS + 5] = [1, 0, 1]
        self.assertEqual(judge(config_of(quiet)), None)

    def test_numbers_of_things_that_the_judge_refuses(self):
        self.assert_bad("config", self.inserted(FRAMES, 7, 0))
        self.assert_bad("config", self.inserted(FRAMES, 7, 17, *[0, 128] * 17))
        self.assert_bad("config", self.inserted(FLOWS, 5, 65, *[0, 1, 1, 0] * 32, 0, 1))
        self.assert_bad("config", [256, 0, 0, 0, 1, 0, 128, 0, 0, 0, 0])
        self.assert_bad("config", [0] * 9)

    def test_frames(self):
        # A partition in a frame is told plus 1, an idle frame is 0.
        self.assertEqual(config_of(self.changed((FRAMES + 1, 0), (FRAMES + 3, 2))).frames,
                         ((None, 400), (1, 150), (1, 128)))

    def test_the_next_frame(self):
        for number in (255, 0, -1, -10 ** 30):
            self.assert_bad("frame", self.changed((0, number)))
        for number in (-1, 3, 10 ** 30):
            self.assert_bad("frame", self.changed((1, number)))
        for number in (-1, 65536, 10 ** 30):
            self.assert_bad("frame", self.changed((2, number)))
        for pairs in (((0, 256), (1, 2), (2, 65535)), ((0, 10 ** 30), (1, 1), (2, 0))):
            self.assertEqual(config_of(self.changed(*pairs)), self.config)

    def test_words(self):
        words = [*range(FIRST, FIRST + 9), *range(FIRST + 12, FIRST + 28), *range(SECOND, SECOND + 9),
                 *range(SECOND + 12, SECOND + 44), *range(SHARED, SHARED + 16), *range(RING, RING + 16)]
        for index in words:
            for number in (-1, 65536, 10 ** 30, -10 ** 30):
                self.assert_bad("words", self.changed((index, number)))
            for number in (0, 65535):
                self.assertEqual(saved_plain(loaded_plain(self.changed((index, number)), [])),
                                 self.changed((index, number)))
        for number in (-1, 65536):
            self.assert_bad("words", self.inserted(QUEUE, 1, 1, number))
            self.assert_bad("words", self.inserted(QUEUE, 1, 3, 1, 2, number))

    def test_ends(self):
        good = [[0, 0, 0], [1, 1, 0], [1, 2, 0], [1, 2, 77], [1, 2, 65535], [1, 5, 0],
                *[[1, 3, number] for number in range(4, 16)]]
        bad = [[0, 0, 1], [0, 1, 0], [0, 5, 0], [2, 0, 0], [2, 5, 0], [-1, 0, 0], [1, 0, 0], [1, 1, 1], [1, 2, -1],
               [1, 2, 65536], [1, 3, 3], [1, 3, 0], [1, 3, 16], [1, 3, -4], [1, 4, 0], [1, 5, 1], [1, 6, 0], [1, -1, 0],
               [10 ** 30, 1, 0], [1, 10 ** 30, 0], [1, 2, 10 ** 30]]
        for at in (FIRST + 9, SECOND + 9):
            for row in good:
                self.assert_goes_on(self.inserted(at, 3, *row))
            for row in bad:
                self.assert_bad("ends", self.inserted(at, 3, *row))

    def test_channels(self):
        for words in ([], [5], [5, 65535]):
            self.assert_goes_on(self.inserted(QUEUE, 1, len(words), *words))
        self.assert_bad("channels", self.inserted(QUEUE, 1, 3, 5, 6, 7))
        self.assert_bad("channels", self.inserted(QUEUE, 1, 50, *range(50)))

    def test_two_faults(self):
        # One of each kind, in the order of the document; a fault further ahead is told.
        faults = [("config", (FRAMES + 2, 127)), ("frame", (1, 3)), ("words", (SHARED, 65536)),
                  ("ends", (FIRST + 9, 2)), ("channels", (CHANNELS + 3, 1))]
        queue = [2, 5, 6]
        for first in range(5):
            for second in range(first, 5):
                pairs = [fault[1] for fault in (faults[second], faults[first])]
                numbers = self.changed(*pairs)[:QUEUE] + queue
                self.assert_bad(faults[first][0], numbers)
                self.assert_bad("numbers", numbers + [0])
                self.assert_bad("numbers", numbers[:-1])
                self.assert_bad("numbers", [*numbers[:PARTITIONS + 6], -1, *numbers[PARTITIONS + 7:]])

    def test_any_list_of_integers(self):
        source = random.Random(9)
        for number in range(400):
            numbers = [source.choice((0, 0, 1, 1, 2, 3, 128, 256, -1, 65536)) for _ in range(source.randrange(80))]
            with self.assertRaises(BadState):
                config_of(numbers)


class AnyStateTest(SavingTest):
    """Point 14.4: whoever made the numbers."""

    def test_numbers_that_are_changed_anywhere(self):
        source = random.Random(3)
        loaded = 0
        for number in range(30):
            config = some_policy_config(number) if number % 2 else some_config(number, wild=True)
            numbers = saved_plain(run_plain(config, [], number % 5))
            for _ in range(30):
                other = numbers[:]
                for _ in range(source.choice((1, 1, 3))):
                    at = source.randrange(len(other))
                    other[at] = source.choice((0, 1, 2, 15, 127, 128, 255, 65535, source.randrange(65536)))
                try:
                    config_of(other)
                except BadState:
                    continue
                self.assert_goes_on(other, count=2)
                loaded += 1
        self.assertGreater(loaded, 400)

    def test_all_words_at_random(self):
        source = random.Random(4)
        for number in range(60):
            config = some_config(number, wild=True)
            numbers = saved_plain(Plain(config, []))
            loaded = loaded_plain(numbers, [])
            for cell in loaded.cells:
                cell.registers = [source.randrange(65536) for _ in range(8)]
                cell.pc = source.choice((source.randrange(65536), source.randrange(20)))
                cell.end = source.choice((None, None, (1, 0), (2, source.randrange(65536)), (3, 7), (5, 0)))
                for words in cell.own:
                    words[:] = [source.choice((source.randrange(26 * 1024), word)) for word in words]
            for k, words in enumerate(loaded.channels):
                words.extend(source.randrange(65536) for _ in range(source.randint(0, config.channels[k][2])))
            for words in loaded.shares + loaded.devices:
                words[:] = [source.randrange(65536) for _ in range(16)]
            loaded.number = source.randrange(len(config.frames))
            loaded.ahead = source.randrange(65536) - loaded.number
            loaded.begin = source.choice((256, 65536 + source.randrange(600), source.randrange(256, 10 ** 6)))
            made = saved_plain(loaded)
            self.assert_goes_on(made, [(made[0] - 1 + 100 * k, 0, k) for k in range(9) if config.devices], count=4)

    def test_views_of_loaded_systems(self):
        # A partition alone sees what it sees in the whole system that goes on.
        for number in range(20):
            config = some_policy_config(number)
            count = number % 6
            numbers = saved_plain(run_plain(config, [], count))
            loaded, whole = loaded_plain(numbers, []), run_plain(config, [], count + 3)
            for _ in range(3):
                loaded.run_frame()
            for p in range(len(config.partitions)):
                self.assertEqual(view(loaded, p)[1:], view(whole, p)[1:])
                self.assertEqual(border(run_plain(config, [], count), p) + border(loaded, p), border(whole, p))
                self.assertEqual(runs_alone(config, p, [], border(whole, p), count + 3), view(whole, p))


class RestartedTest(SavingTest):
    def test_what_is_as_at_the_beginning(self):
        receiver = Partition(RECEIVER.image, 2, 2)
        config = pair(SENDER, receiver, [(0, 700), (1, 400)], [(0, 1, 8, True)], [(0, 1)], [1])
        before = run_plain(config, [(3, 0, 7)], 4)
        for p in (0, 1):
            plain = loaded_plain(restarted(saved_plain(before), p), [])
            self.assertEqual(plain.state(p), Plain(config, []).state(p))
            self.assertNotEqual(plain.state(p), before.state(p))
            self.assertEqual((plain.state(1 - p), plain.rest()), (before.state(1 - p), before.rest()))
            self.assertEqual(saved_plain(plain)[:3], saved_plain(before)[:3])
            self.assertEqual(config_of(saved_plain(plain)), config)
            self.assert_goes_on(saved_plain(plain))

    def test_twice(self):
        config = pair(SENDER, RECEIVER, [(0, 700), (1, 400)], [(0, 1, 8, True)])
        numbers = saved_plain(run_plain(config, [], 4))
        once = restarted(numbers, 0)
        self.assertEqual(restarted(once, 0), once)
        self.assertEqual(restarted(restarted(numbers, 1), 0), restarted(once, 1))
        beginning = saved_plain(Plain(config, []))
        self.assertEqual(restarted(restarted(beginning, 1), 0), beginning)

    def test_a_partition_that_has_ended(self):
        config = pair(program("addi r1, r1, 1\nstore r1, r2, 9\nhalt"), COUNTER, [(0, 200), (1, 200)])
        numbers = saved_plain(run_plain(config, [], 4))
        plain = loaded_plain(restarted(numbers, 0), [])
        self.assertEqual(plain.state(0)[1:3], (0, None))
        plain.run_frame()
        self.assertEqual((len(plain.trace(0)), plain.state(0)[2]), (3, (5, 0)))
        self.assert_goes_on(restarted(numbers, 0))

    def test_one_that_others_see(self):
        config = pair(SENDER, RECEIVER, [(1, 400), (0, 700)], [(0, 1, 2, True)])
        numbers = saved_plain(run_plain(config, [], 4))
        loaded, again = loaded_plain(numbers, []), loaded_plain(restarted(numbers, 0), [])
        for _ in range(6):
            loaded.run_frame()
            again.run_frame()
        self.assertNotEqual(view(again, 1), view(loaded, 1))

    def test_others_see_nothing_of_it(self):
        found = 0
        for number in range(40):
            config = some_policy_config(number)
            inputs = some_inputs(config, 12, 20, number)
            numbers = saved_plain(run_plain(config, inputs, 4))
            later = [each for each in inputs if each[0] >= numbers[0] - 1]
            for p in range(len(config.partitions)):
                again = restarted(numbers, p)
                plain, other = loaded_plain(numbers, later), loaded_plain(again, later)
                for _ in range(8):
                    plain.run_frame()
                    other.run_frame()
                for q in range(len(config.partitions)):
                    if p not in sources_of(config, q):
                        self.assertEqual(view(plain, q), view(other, q))
                        found += view(plain, p) != view(other, p)
        self.assertGreater(found, 30)


if __name__ == "__main__":
    unittest.main()
