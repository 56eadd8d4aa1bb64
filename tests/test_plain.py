"""merestone.plain: chapter 08."""

import unittest

from merestone.codes import KERNEL_ONLY, encode
from merestone.config import Config, Partition, frame_start
from merestone.plain import Plain, run_plain
from systems import COUNTER, RECEIVER, SENDER, SLEEPER, after, alone, pair, program, some_config, some_inputs, taken

ZEROS = (0,) * 8
EMPTY = (0,) * 16


def page(*words):
    return tuple(words) + (0,) * (16 - len(words))


class ExamplesTest(unittest.TestCase):
    def test_example(self):
        sender = Partition(
            [encode("addi", 1, 1, 5), encode("call", 0, 0, 1), encode("call", 0, 0, 0), encode("jump", 7, 0, 0)], 1, 0)
        config = Config([sender, Partition([], 1, 0)], [(0, 300)], [(0, 1, 2, False)], [], [], [(0, 1)])
        plain = run_plain(config, [], 1)
        self.assertEqual([plain.rest()[2], plain.trace(0)[:3], plain.tick], [
            ((5,),), [(256, 0, ZEROS), (257, 1, (0, 5, 0, 0, 0, 0, 0, 0)), (353, 2, (1, 5, 0, 0, 0, 0, 0, 0))], 556])


class BeginningTest(unittest.TestCase):
    def test_the_first_state(self):
        config = taken(Config(
            [Partition([5, 6], 2, 9), Partition([], 1, 0)], [(0, 200)], [(0, 1, 2, False), (1, 0, 2, True)], [(0, 1)],
            [0, 1], [(0, 1), (1, 0)]))
        plain = Plain(config, [])
        self.assertEqual((plain.config, plain.number, plain.tick, plain.events), (config, 0, 0, []))
        self.assertEqual(plain.state(0), (ZEROS, 9, None, (page(5, 6), EMPTY)))
        self.assertEqual(plain.state(1), (ZEROS, 0, None, (EMPTY,)))
        self.assertEqual(plain.rest(), ((EMPTY,), (EMPTY, EMPTY), ((), ())))
        self.assertEqual((plain.trace(0), plain.trace(1)), ([], []))

    def test_an_image_over_several_pages(self):
        plain = Plain(alone(Partition(range(1, 41), 3, 0), 200), [])
        self.assertEqual(plain.state(0)[3], (tuple(range(1, 17)), tuple(range(17, 33)), page(*range(33, 41))))
        plain = Plain(alone(Partition([7] * 128, 8, 0), 200), [])
        self.assertEqual(plain.state(0)[3], ((7,) * 16,) * 8)

    def test_no_frames(self):
        config = alone(COUNTER, 200)
        plain = run_plain(config, [], 0)
        self.assertEqual((plain.number, plain.tick, plain.trace(0)), (0, 0, []))

    def test_the_start(self):
        plain = run_plain(alone(program("halt\nhalt\naddi r1, r1, 1\nhalt", start=2), 200), [], 1)
        self.assertEqual(plain.trace(0), [(256, 2, ZEROS), (257, 3, (0, 1, 0, 0, 0, 0, 0, 0))])

    def test_what_is_passed_stays(self):
        inputs = [(300, 0, 5)]
        config = alone(COUNTER, 200, devices=[0])
        plain = Plain(config, inputs)
        inputs.clear()
        plain.run_frame()
        self.assertEqual(plain.rest()[1], (page(1, 0, 5),))
        self.assertEqual(config, alone(COUNTER, 200, devices=[0]))

    def test_what_is_returned_is_new(self):
        plain = run_plain(alone(COUNTER, 200), [], 1)
        plain.trace(0).clear()
        state, rest = plain.state(0), plain.rest()
        plain.run_frame()
        self.assertEqual((state[0][1], plain.state(0)[0][1]), (100, 200))
        self.assertEqual(rest, ((), (), ()))
        self.assertEqual(len(plain.trace(0)), 400)

    def test_run_frame_returns_nothing(self):
        self.assertIsNone(Plain(alone(COUNTER, 200), []).run_frame())


class FramesTest(unittest.TestCase):
    def test_one_instruction_in_each_tick_of_a_frame(self):
        plain = run_plain(alone(COUNTER, 200, 129), [], 3)
        ticks = [*range(256, 456), *range(712, 841), *range(1097, 1297)]
        self.assertEqual([each[0] for each in plain.trace(0)], ticks)
        self.assertEqual([each[1] for each in plain.trace(0)], [k % 2 for k in range(529)])
        self.assertEqual([each[2][1] for each in plain.trace(0)], [(k + 1) // 2 for k in range(529)])
        self.assertEqual((plain.state(0), plain.number, plain.tick),
                         (((0, 265) + (0,) * 6, 1, None, (page(*COUNTER.image),)), 3, 1297))

    def test_ends_of_frames(self):
        config = pair(COUNTER, COUNTER, [(0, 128), (None, 4000), (1, 300)])
        plain = Plain(config, [])
        for number in range(1, 8):
            plain.run_frame()
            self.assertEqual((plain.number, plain.tick), (number, frame_start(config, number) - 256))

    def test_idle_frames(self):
        config = taken(Config([COUNTER], [(None, 300), (0, 128), (None, 128)], [], [], [0], []))
        plain = run_plain(config, [(400, 0, 5), (5000, 0, 6)], 3)
        self.assertEqual([each[0] for each in plain.trace(0)], list(range(812, 940)))
        self.assertEqual(plain.rest()[1], (page(1, 0, 5),))
        only_idle = run_plain(taken(Config([COUNTER], [(None, 300)], [], [], [], [])), [], 5)
        self.assertEqual((only_idle.trace(0), only_idle.state(0)[:3]), ([], (ZEROS, 0, None)))

    def test_several_frames_of_one_partition_in_a_round(self):
        config = pair(COUNTER, COUNTER, [(0, 128), (1, 200), (0, 130)])
        plain = run_plain(config, [], 6)
        starts = [frame_start(config, number) for number in range(6)]
        first = [tick for k in (0, 2, 3, 5) for tick in range(starts[k], starts[k] + (128, 200, 130)[k % 3])]
        self.assertEqual([each[0] for each in plain.trace(0)], first)
        second = [tick for k in (1, 4) for tick in range(starts[k], starts[k] + 200)]
        self.assertEqual([each[0] for each in plain.trace(1)], second)

    def test_a_partition_without_a_frame(self):
        plain = run_plain(pair(COUNTER, COUNTER, [(0, 128)]), [], 3)
        self.assertEqual((plain.trace(1), plain.state(1)[:3]), ([], (ZEROS, 0, None)))

    def test_instructions_of_two_words(self):
        plain = run_plain(alone(program("set r1, 7\nset r2, 8\nstore r1, r2, 1\nload r3, r2, 1\nhalt"), 128), [], 1)
        self.assertEqual([each[:2] for each in plain.trace(0)], [(256, 0), (257, 2), (258, 4), (259, 5), (260, 6)])
        self.assertEqual(plain.state(0)[0], (0, 7, 8, 7, 0, 0, 0, 0))
        self.assertEqual(plain.state(0)[3][0][9], 7)

    def test_run_at_once_and_frame_by_frame(self):
        for number in range(8):
            config = some_config(number)
            inputs = some_inputs(config, 6, 40)
            plain = Plain(config, inputs)
            for count in range(7):
                other = run_plain(config, inputs, count)
                for p in range(len(config.partitions)):
                    self.assertEqual((other.state(p), other.trace(p)), (plain.state(p), plain.trace(p)))
                self.assertEqual((other.rest(), other.events), (plain.rest(), plain.events))
                plain.run_frame()


class TrapsTest(unittest.TestCase):
    def assert_end(self, text, end, place, registers=ZEROS, begun=None, pages=1):
        """A program that ends, with its end, place and registers; it never runs again."""
        plain = run_plain(alone(program(text, pages), 200), [], 1)
        state = plain.state(0)
        self.assertEqual(state[:3], (registers, place, end), text)
        trace = plain.trace(0)
        self.assertEqual(trace[-1][1:], (place, registers))
        if begun is not None:
            self.assertEqual(len(trace), begun)
        plain.run_frame()
        plain.run_frame()
        self.assertEqual((plain.state(0), plain.trace(0), plain.tick), (state, trace, 3 * 456))

    def test_halt(self):
        self.assert_end("halt", (5, 0), 0, begun=1)
        self.assert_end("addi r1, r1, 1\nhalt", (5, 0), 1, (0, 1, 0, 0, 0, 0, 0, 0), 2)

    def test_illegal_words_and_ops_of_kernel_mode(self):
        for content in (1, 65535, 3243, *[encode(op, 0, 0, 0) for op in KERNEL_ONLY]):
            self.assert_end(f"addi r1, r1, 1\nword {content}", (1, 0), 1, (0, 1, 0, 0, 0, 0, 0, 0), 2)

    def test_a_place_that_cannot_be_fetched(self):
        self.assert_end("set r1, 16\njump r1", (2, 16), 16, (0, 16, 0, 0, 0, 0, 0, 0), 3)
        for place in (127, 128, 65535):
            self.assert_end(f"set r1, {place}\njump r1", (2, place), place, (0, place, 0, 0, 0, 0, 0, 0), 3)
        for place in (128, 32768):
            self.assert_end(f"set r1, {place}\njump r1", (2, place), place, (0, place, 0, 0, 0, 0, 0, 0), 3, 8)

    def test_behind_the_last_page(self):
        self.assert_end("\n".join(["copy r1, r1"] * 16), (2, 16), 16, begun=17)
        for pages in (1, 8):
            last = pages * 16 - 1
            image = [encode("copy", 0, 0, 0)] * last + [encode("set", 0, 0, 0)]
            plain = run_plain(alone(Partition(image, pages, 0), 200), [], 1)
            self.assertEqual(plain.state(0)[1:3], (last, (2, last + 1)))

    def test_load_and_store(self):
        for op in ("load", "store"):
            for address in (16, 127, 128, 65535):
                end = (2, address)
                self.assert_end(f"set r1, {address}\n{op} r2, r1, 0", end, 2, (0, address, 0, 0, 0, 0, 0, 0), 2)
                self.assert_end(f"set r1, {address - 3}\n{op} r2, r1, 3", end, 2, (0, address - 3, 0, 0, 0, 0, 0, 0), 2)

    def test_calls_that_are_none(self):
        for number in range(4, 16):
            self.assert_end(f"addi r1, r1, 1\ncall {number}", (3, number), 1, (0, 1, 0, 0, 0, 0, 0, 0), 2)

    def test_a_trap_in_the_last_tick(self):
        for text, end in (("halt", (5, 0)), ("word 65535", (1, 0)), ("load r1, r2, 1", (2, 128))):
            for ticks in (128, 129):
                plain = run_plain(alone(program(after(127, text), 8), ticks), [], 1)
                self.assertEqual((plain.state(0)[1:3], len(plain.trace(0))), ((127, end), 128))

    def test_a_trap_that_would_come_behind_the_last_tick(self):
        plain = run_plain(alone(program(after(127, "copy r1, r1"), 8), 128), [], 1)
        self.assertEqual(plain.state(0)[1:3], (128, None))
        plain.run_frame()
        self.assertEqual(plain.state(0)[1:3], (128, (2, 128)))
        registers = (0, 0, 127, 0, 0, 0, 0, 0)
        self.assertEqual(plain.trace(0)[127:], [(383, 127, registers), (640, 128, registers)])

    def test_others_run_on(self):
        plain = run_plain(pair(program("halt"), COUNTER, [(0, 200), (1, 200)]), [], 4)
        self.assertEqual((len(plain.trace(0)), len(plain.trace(1))), (1, 400))
        self.assertEqual((plain.state(0)[2], plain.state(1)[2]), ((5, 0), None))


class CallTimesTest(unittest.TestCase):
    """Calls with 97, 96, 95 ticks and one tick left in a frame of 128 ticks."""

    def run_call(self, number, left, count=1, more="addi r3, r3, 1\nloop: beq r0, r0, loop"):
        text = after(128 - left, f"call {number}\n{more}")
        return run_plain(alone(program(text, 8), 128), [], count)

    def test_97_ticks(self):
        for number in (1, 2, 3):
            plain = self.run_call(number, 97)
            registers = (0, 0, 31, 0, 0, 0, 0, 0)
            self.assertEqual(plain.trace(0)[31:], [(287, 31, registers), (383, 32, registers)])
            self.assertEqual(plain.state(0)[:3], ((0, 0, 31, 1, 0, 0, 0, 0), 33, None))

    def test_96_ticks(self):
        for number in (1, 2, 3):
            plain = self.run_call(number, 96)
            self.assertEqual(plain.trace(0)[32:], [(288, 32, (0, 0, 32, 0, 0, 0, 0, 0))])
            self.assertEqual(plain.state(0)[:3], ((0, 0, 32, 0, 0, 0, 0, 0), 33, None))
            plain.run_frame()
            self.assertEqual(plain.trace(0)[33][:2], (640, 33))

    def test_95_ticks(self):
        for number in range(16):
            for left in (95, 94, 5):
                plain = self.run_call(number, left)
                many = 128 - left
                begun = (256 + many, many, (0, 0, many, 0, 0, 0, 0, 0))
                self.assertEqual(plain.trace(0)[many:], [begun])
                self.assertEqual(plain.state(0)[:3], ((0, 0, many, 0, 0, 0, 0, 0), many, None))
                plain.run_frame()
                # It comes to the same call again.
                again = [(640, many, (0, 0, many, 0, 0, 0, 0, 0))]
                self.assertEqual(plain.trace(0)[many + 1:many + 2], again)
                if number == 0:
                    self.assertEqual(plain.state(0)[1:3], (many + 1, None))
                elif number > 3:
                    self.assertEqual((plain.state(0)[1:3], len(plain.trace(0))), ((many, (3, number)), many + 2))
                else:
                    self.assertEqual(plain.trace(0)[many + 2][:2], (736, many + 1))

    def test_a_call_in_the_last_tick(self):
        text = "set r2, 63\nloop: addi r2, r2, -1\nbne r2, r3, loop\ncall {}\nend: beq r0, r0, end"
        for number in (0, 1, 2, 3, 4, 15):
            plain = run_plain(alone(program(text.format(number)), 128), [], 1)
            self.assertEqual(plain.trace(0)[127:], [(383, 4, ZEROS)])
            self.assertEqual(plain.state(0)[:3], (ZEROS, 4, None))
            plain.run_frame()
            self.assertEqual(plain.trace(0)[128], (640, 4, ZEROS))
            self.assertEqual(plain.state(0)[2], None if number < 4 else (3, number))

    def test_calls_that_are_none_end_a_partition_in_time_only(self):
        for number in (4, 15):
            for left in (96, 97, 128):
                plain = self.run_call(number, left)
                self.assertEqual(plain.state(0)[1:3], (128 - left, (3, number)))
                self.assertEqual(len(plain.trace(0)), 129 - left)

    def test_rest(self):
        for left in (96, 97, 128):
            plain = self.run_call(0, left)
            many = 128 - left
            self.assertEqual((len(plain.trace(0)), plain.state(0)[1:3]), (many + 1, (many + 1, None)))
            plain.run_frame()
            self.assertEqual(plain.trace(0)[many + 1][:2], (640, many + 1))

    def test_a_call_in_every_frame(self):
        plain = run_plain(alone(program("call 0\ncall 0\nloop: beq r0, r0, loop"), 200, 300), [], 3)
        self.assertEqual([each[:2] for each in plain.trace(0)[:4]], [(256, 0), (712, 1), (1268, 2), (1269, 2)])

    def test_nothing_is_done_by_a_call_that_is_too_late(self):
        sender = program(after(33, "set r0, 0\ncall 1\nloop: beq r0, r0, loop").replace("set r0, 0", "copy r0, r0"))
        config = pair(sender, SLEEPER, [(0, 128), (1, 128)], [(0, 1, 2, True)])
        plain = run_plain(config, [], 2)
        self.assertEqual((plain.rest()[2], plain.events), (((),), []))
        plain = run_plain(config, [], 3)
        self.assertEqual((plain.rest()[2], plain.events), (((0,),), [("send", 1024, 0, 0)]))


class FrameNumberTest(unittest.TestCase):
    def test_the_number_goes_on_from_round_to_round(self):
        text = "loop: call 3\nadd r1, r1, r0\ncall 0\nbeq r2, r2, loop"
        plain = run_plain(alone(program(text), 200, 300, 250), [], 8)
        self.assertEqual([each[2][0] for each in plain.trace(0) if each[1] == 1], list(range(8)))
        self.assertEqual([each[:2] for each in plain.trace(0)[:4]], [(256, 0), (352, 1), (353, 2), (712, 3)])

    def test_the_first_frames(self):
        text = "call 3\nstore r0, r1, 8\ncall 0\ncall 3\nstore r0, r1, 9\nloop: beq r0, r0, loop"
        config = pair(program(text), COUNTER, [(1, 128), (None, 128), (0, 400)])
        plain = run_plain(config, [], 6)
        self.assertEqual(plain.state(0)[3][0][8:10], (2, 5))

    def test_beyond_65536(self):
        counts = program("loop: call 3\ncall 0\nbeq r1, r1, loop")
        frames = [(None, 128)] * 14 + [(0, 300), (None, 128)]
        config = taken(Config([counts], frames, [], [], [], []))
        plain = run_plain(config, [], 65536)
        self.assertEqual((plain.state(0)[0][0], plain.number), (65534, 65536))
        for _ in range(16):
            plain.run_frame()
        self.assertEqual((plain.state(0)[0][0], plain.number), (14, 65552))
        self.assertEqual(plain.tick, frame_start(config, 65552) - 256)


class SendTest(unittest.TestCase):
    def sent(self, text, channels, count=1, first=True):
        """The plain system behind some frames of a partition that runs a text."""
        partition = program(text)
        partitions = (partition, SLEEPER) if first else (SLEEPER, partition)
        return run_plain(pair(*partitions, [(0 if first else 1, 4000)], channels), [], count)

    def test_words_in_their_order(self):
        text = "addi r1, r1, 7\ncall 1\ncopy r2, r0\nset r0, 0\naddi r1, r1, 1\ncall 1\nloop: beq r7, r7, loop"
        plain = self.sent(text, [(0, 1, 3, True)])
        self.assertEqual(plain.rest()[2], ((7, 8),))
        self.assertEqual(plain.events, [("send", 257, 0, 7), ("send", 356, 0, 8)])
        self.assertEqual(plain.state(0)[0][:3], (1, 8, 1))

    def test_a_full_channel(self):
        for told, answers in ((True, 2), (False, 5)):
            text = "set r4, 5\nloop: set r0, 0\naddi r1, r1, 1\ncall 1\nadd r5, r5, r0\nbne r1, r4, loop\nhalt"
            plain = self.sent(text, [(0, 1, 2, told)])
            self.assertEqual((plain.rest()[2], plain.state(0)[0][5]), (((1, 2),), answers))
            # The words that were lost are told, too.
            self.assertEqual([each[3] for each in plain.events], [1, 2, 3, 4, 5])
            self.assertEqual(plain.state(0)[0][0], 0 if told else 1)

    def test_the_capacity_8(self):
        text = "loop: set r0, 0\naddi r1, r1, 1\ncall 1\nbeq r7, r7, loop"
        plain = self.sent(text, [(0, 1, 8, True)])
        self.assertEqual(plain.rest()[2], (tuple(range(1, 9)),))

    def test_a_channel_of_another_source(self):
        for told in (True, False):
            plain = self.sent("addi r0, r0, 1\naddi r1, r1, 7\ncall 1\nhalt", [(0, 1, 2, told), (1, 0, 2, told)])
            self.assertEqual((plain.state(0)[0][:2], plain.rest()[2], plain.events), ((0, 7), ((), ()), []))

    def test_numbers_that_are_no_channel(self):
        for number in (1, 2, 12, 15, 16, 4095, 4096, 32768, 65535):
            plain = self.sent(f"set r0, {number}\ncall 1\nhalt", [(0, 1, 2, False)])
            self.assertEqual((plain.state(0)[0][0], plain.rest()[2], plain.events), (0, ((),), []))
        plain = self.sent("set r0, 0\ncall 1\nhalt", [])
        self.assertEqual((plain.state(0)[0][0], plain.rest()[2]), (0, ()))

    def test_the_second_of_two_channels(self):
        plain = self.sent("addi r0, r0, 1\nset r1, 65535\ncall 1\nhalt", [(0, 1, 2, False), (0, 1, 1, False)])
        self.assertEqual((plain.rest()[2], plain.events), (((), (65535,)), [("send", 258, 1, 65535)]))


class ReceiveTest(unittest.TestCase):
    def test_a_word(self):
        config = pair(SENDER, RECEIVER, [(0, 260), (1, 400)], [(0, 1, 3, False)])
        plain = run_plain(config, [], 1)
        self.assertEqual((plain.rest()[2], plain.events), (((1, 2),), [("send", 258, 0, 1), ("send", 358, 0, 2)]))
        plain.run_frame()
        self.assertEqual(plain.rest()[2], ((),))
        takes = plain.events[2:]
        begin = frame_start(config, 1)
        self.assertEqual(takes, [("take", begin + 1, 0), ("take", begin + 101, 0)])
        # Both words, then twice an empty channel: the register 1 stays, the register 0 becomes 0.
        self.assertEqual(plain.state(1)[0][5:7], (2, 1 + 2 + 2 + 2))
        self.assertEqual(plain.state(1)[0][1], 2)

    def test_an_empty_channel(self):
        partition = program("set r1, 99\ncall 2\nhalt")
        plain = run_plain(pair(SLEEPER, partition, [(1, 200)], [(0, 1, 2, True)]), [], 1)
        self.assertEqual((plain.state(1)[0][:2], plain.events), ((0, 99), []))

    def test_a_channel_of_another_target(self):
        text = "addi r1, r1, 7\ncall 1\nset r0, 0\nset r1, 99\ncall 2\nloop: beq r7, r7, loop"
        plain = run_plain(pair(program(text), SLEEPER, [(0, 400)], [(0, 1, 2, True)]), [], 1)
        self.assertEqual((plain.state(0)[0][:2], plain.rest()[2]), ((0, 99), ((7,),)))

    def test_numbers_that_are_no_channel(self):
        for number in (1, 2, 12, 16, 4096, 65535):
            partition = program(f"set r0, {number}\nset r1, 99\ncall 2\nhalt")
            plain = run_plain(pair(SLEEPER, partition, [(1, 200)], [(0, 1, 2, True)]), [], 1)
            self.assertEqual((plain.state(1)[0][:2], plain.events), ((0, 99), []))

    def test_words_go_round_a_full_channel(self):
        config = pair(SENDER, RECEIVER, [(0, 4000), (1, 300)], [(0, 1, 8, False)])
        plain = run_plain(config, [], 8)
        got = 0
        for event in plain.events:
            if event[0] == "take":
                got += 1
        self.assertEqual((got, len(plain.rest()[2][0])), (12, 8 - 3))
        # What a receiver gets is what was sent, in order, without what was lost.
        held, expected = [], []
        for event in plain.events:
            if event[0] == "send" and len(held) < 8:
                held.append(event[3])
            if event[0] == "take":
                expected.append(held.pop(0))
        self.assertEqual(plain.state(1)[0][6] % 65536, sum(expected) % 65536)
        self.assertEqual(plain.rest()[2][0], tuple(held))


class SharesTest(unittest.TestCase):
    WRITER = program("set r1, 16\nloop: addi r2, r2, 1\nstore r2, r1, 3\nstore r2, r1, 15\nbeq r0, r0, loop")

    def test_writer_and_reader(self):
        reader = program("set r1, 16\nload r2, r1, 3\nload r3, r1, 15\nload r4, r1, 0\nhalt")
        config = pair(self.WRITER, reader, [(0, 128), (1, 128)], (), [(0, 1)])
        plain = run_plain(config, [], 2)
        writes = [event for event in plain.events if event[0] == "write"]
        self.assertEqual(writes[:3], [("write", 258, 0, 3, 1), ("write", 259, 0, 15, 1), ("write", 262, 0, 3, 2)])
        self.assertEqual(plain.events, writes)
        self.assertEqual(plain.state(1)[0], (0, 16, 32, 32, 0, 0, 0, 0))
        self.assertEqual(plain.rest()[0], (page(0, 0, 0, 32) [:15] + (32,),))

    def test_the_same_word_again_is_written_again(self):
        text = "set r1, 16\nset r2, 5\nloop: store r2, r1, 0\nbeq r0, r0, loop"
        plain = run_plain(pair(program(text), SLEEPER, [(0, 128)], (), [(0, 1)]), [], 1)
        self.assertEqual(plain.events, [("write", tick, 0, 0, 5) for tick in range(258, 384, 2)])

    def test_the_reader_cannot_write_and_nobody_can_execute(self):
        stores = program("set r1, 16\nstore r1, r1, 4\nhalt")
        plain = run_plain(pair(SLEEPER, stores, [(1, 128)], (), [(0, 1)]), [], 1)
        self.assertEqual((plain.state(1)[2], plain.events, plain.rest()[0]), ((2, 20), [], (page(),)))
        jumps = program("set r1, 16\njump r1")
        for p in (0, 1):
            partitions = [SLEEPER, SLEEPER]
            partitions[p] = jumps
            plain = run_plain(pair(*partitions, [(p, 128)], (), [(0, 1)]), [], 1)
            self.assertEqual(plain.state(p)[2], (2, 16))

    def test_own_pages_are_no_shares(self):
        text = "set r1, 8\nstore r1, r1, 0\nhalt"
        plain = run_plain(pair(program(text), SLEEPER, [(0, 128)], (), [(0, 1)]), [], 1)
        self.assertEqual((plain.events, plain.state(0)[3][0][8]), ([], 8))

    def test_several_shares(self):
        text = "set r1, 16\nset r2, 32\nstore r1, r1, 0\nstore r2, r2, 1\nhalt"
        plain = run_plain(pair(SLEEPER, program(text), [(1, 128)], (), [(1, 0), (1, 0)]), [], 1)
        self.assertEqual(plain.rest()[0], (page(16), page(0, 32)))
        self.assertEqual(plain.events, [("write", 258, 0, 0, 16), ("write", 259, 1, 1, 32)])

    def test_the_events_are_in_their_order(self):
        text = "set r1, 16\nstore r1, r1, 0\ncall 1\nset r0, 1\ncall 2\nstore r1, r1, 1\nloop: beq r7, r7, loop"
        other = program("set r0, 1\nset r1, 16\ncall 1\nloop: beq r7, r7, loop")
        config = pair(program(text), other, [(1, 128), (0, 400)], [(0, 1, 2, True), (1, 0, 2, False)], [(0, 1)])
        plain = run_plain(config, [], 2)
        self.assertEqual(plain.events, [
            ("send", 258, 1, 16), ("write", 641, 0, 0, 16), ("send", 642, 0, 16), ("take", 739, 1),
            ("write", 835, 0, 1, 16)])


class DevicesTest(unittest.TestCase):
    READER = program("set r1, 16\nloop: load r2, r1, 0\nload r3, r1, 2\nload r4, r1, 1\nbeq r0, r0, loop")

    def ring(self, inputs, count=1, frames=(200,)):
        return run_plain(alone(self.READER, *frames, devices=[0]), inputs, count).rest()[1][0]

    def test_inputs_are_written_before_the_instruction_of_their_tick(self):
        for tick in (0, 255, 256, 257, 258, 261, 262, 300, 441, 449):
            plain = run_plain(alone(self.READER, 200, devices=[0]), [(tick, 0, 9)], 1)
            # The first word is loaded at the tick 257 and every fourth one from then on.
            load = min(each for each in range(257, 456, 4) if each >= tick)
            self.assertEqual(min(each[0] for each in plain.trace(0) if each[2][2] == 1), load + 1)

    def test_the_first_tick_of_a_frame(self):
        config = alone(program("set r1, 16\ncall 0\nload r2, r1, 0\nhalt"), 200, devices=[0])
        for tick, many in ((711, 1), (712, 1), (713, 0)):
            self.assertEqual(run_plain(config, [(tick, 0, 9)], 2).state(0)[0][2], many)

    def test_the_last_tick_of_a_frame(self):
        text = "set r1, 16\nset r2, 62\nloop: addi r2, r2, -1\nbne r2, r3, loop\ncopy r4, r4\nload r5, r1, 0\nhalt"
        config = alone(program(text), 128, devices=[0])
        for tick, many in ((382, 1), (383, 1), (384, 0)):
            plain = run_plain(config, [(tick, 0, 9)], 1)
            self.assertEqual(plain.trace(0)[-1][:2], (383, 7))
            self.assertEqual((plain.state(0)[0][5], plain.rest()[1][0][0]), (many, many))
            plain.run_frame()
            self.assertEqual(plain.rest()[1], (page(1, 0, 9),))

    def test_inputs_in_gaps_and_in_frames_of_others(self):
        config = pair(COUNTER, self.READER, [(0, 200), (1, 200), (None, 128)], (), (), [1, 0])
        inputs = [(5, 0, 1), (255, 0, 2), (256, 0, 3), (455, 0, 4), (456, 0, 5), (711, 0, 6), (712, 0, 7), (911, 0, 8),
                  (912, 0, 9), (1200, 0, 10), (1296, 1, 11)]
        for count, many in ((0, 0), (1, 4), (2, 8), (3, 10)):
            rings = run_plain(config, inputs, count).rest()[1]
            self.assertEqual(rings, (page(many, 0, *range(1, many + 1)) if many else page(), page()))
        self.assertEqual(run_plain(config, inputs, 4).rest()[1][1], page(1, 0, 11))

    def test_several_inputs_in_one_tick(self):
        self.assertEqual(self.ring([(300, 0, 5), (300, 0, 6), (300, 0, 7)]), page(3, 0, 5, 6, 7))

    def test_the_14th_and_the_15th_input(self):
        inputs = [(10 * k, 0, 100 + k) for k in range(15)]
        self.assertEqual(self.ring(inputs[:14]), (14, 0, *range(100, 114)))
        self.assertEqual(self.ring(inputs), (15, 0, 114, *range(101, 114)))

    def test_inputs_while_a_call_is_served(self):
        text = "set r1, 16\ncall 3\nload r2, r1, 0\nload r3, r1, 2\nhalt"
        for tick, many in ((300, 1), (352, 1), (353, 1), (354, 0)):
            plain = run_plain(alone(program(text), 200, devices=[0]), [(tick, 0, 9)], 1)
            self.assertEqual(plain.state(0)[0][2], many, tick)

    def test_a_device_can_only_be_read(self):
        plain = run_plain(alone(program("set r1, 16\nstore r1, r1, 1\nhalt"), 200, devices=[0]), [], 1)
        self.assertEqual((plain.state(0)[1:3], plain.rest()[1]), ((2, (2, 17)), (page(),)))
        plain = run_plain(alone(program("set r1, 16\njump r1"), 200, devices=[0]), [], 1)
        self.assertEqual(plain.state(0)[1:3], (16, (2, 16)))

    def test_the_second_word_stays_0(self):
        plain = run_plain(alone(self.READER, 400, devices=[0]), [(300 + k, 0, 7) for k in range(40)], 1)
        self.assertEqual({each[2][4] for each in plain.trace(0)}, {0})
        self.assertEqual(plain.rest()[1][0][:2], (40, 0))

    def test_a_partition_that_has_ended_gets_inputs(self):
        plain = run_plain(alone(program("halt"), 200, devices=[0]), [(100, 0, 5), (300, 0, 6)], 2)
        self.assertEqual(plain.rest()[1], (page(2, 0, 5, 6),))

    def test_devices_of_others_are_not_seen(self):
        config = pair(self.READER, self.READER, [(0, 200), (1, 200)], (), (), [1])
        plain = run_plain(config, [(0, 0, 5)], 2)
        self.assertEqual((plain.state(0)[2], plain.state(1)[2]), ((2, 16), None))


class TraceTest(unittest.TestCase):
    def test_kinds_of_values(self):
        plain = run_plain(alone(COUNTER, 200), [], 1)
        self.assertIs(type(plain.trace(0)), list)
        for each in plain.trace(0):
            self.assertEqual([type(part) for part in each], [int, int, tuple])
            self.assertEqual(len(each[2]), 8)
        registers, place, end, pages = plain.state(0)
        self.assertEqual([type(part) for part in (registers, place, pages, pages[0])], [tuple, int, tuple, tuple])
        self.assertIsNone(end)
        self.assertIs(type(plain.events), list)
        rest = run_plain(some_config(3), [], 1).rest()
        for part in (rest, *rest, *rest[0], *rest[1], *rest[2]):
            self.assertIs(type(part), tuple)

    def test_a_call_that_is_too_late_is_told_each_time(self):
        plain = run_plain(alone(program(after(40, "call 3\nloop: beq r1, r1, loop")), 128), [], 2)
        told = [each[:2] for each in plain.trace(0) if each[1] == 40]
        self.assertEqual(told, [(296, 40), (640, 40)])


if __name__ == "__main__":
    unittest.main()
