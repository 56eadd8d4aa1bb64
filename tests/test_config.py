"""merestone.config: chapter 06."""

import unittest

from merestone import config as module
from merestone.config import Config, Partition, frame_start, may_flow, page_map, round_length, sources_of


def partitions(*pages):
    return [Partition([], many, 0) for many in pages]


def with_frames(*frames):
    return Config(partitions(1), list(frames), [], [], [], [])


def with_flows(many, *flows):
    return Config(partitions(*[1] * many), [(0, 200)], [], [], [], list(flows))


class ConstantsTest(unittest.TestCase):
    def test_constants(self):
        self.assertEqual((module.PAGE, module.VIRTUAL, module.GAP, module.CALL), (16, 8, 256, 96))
        self.assertEqual((module.READ, module.WRITE, module.EXECUTE), (1, 2, 4))


class AttributesTest(unittest.TestCase):
    def test_example(self):
        three = [Partition([], 2, 0), Partition([], 1, 0), Partition([], 1, 0)]
        config = Config(three, [(0, 200), (1, 300)], [], [(1, 0)], [0], [(1, 0), (2, 1)])
        self.assertEqual(
            [page_map(config, 0), frame_start(config, 1), frame_start(config, 2), sources_of(config, 0)],
            [[("own", 0, 7), ("own", 1, 7), ("share", 0, 1), ("device", 0, 1)], 712, 1268, [0, 1, 2]],
        )

    def test_a_partition(self):
        image = [1, 2, 3]
        partition = Partition(image, 2, 9)
        image.append(4)
        self.assertEqual((partition.image, partition.pages, partition.start), ((1, 2, 3), 2, 9))
        self.assertEqual(partition.fields(), ((1, 2, 3), 2, 9))
        self.assertIs(type(partition.fields()), tuple)
        self.assertEqual(Partition((5,), 1, 0).image, (5,))
        self.assertEqual(Partition([], 1, 0).image, ())

    def test_a_config(self):
        given = (partitions(1, 2), [(0, 200), (None, 300)], [(0, 1, 2, True)], [(0, 1)], [1, 0], [(0, 1), (1, 0)])
        config = Config(*given)
        names = ("partitions", "frames", "channels", "shares", "devices", "flows")
        for name, each in zip(names, given):
            self.assertEqual(getattr(config, name), tuple(each), name)
            self.assertIs(type(getattr(config, name)), tuple, name)
        self.assertEqual(config.fields(), tuple(tuple(each) for each in given))
        for each in given:
            each.clear()
        self.assertEqual([len(each) for each in config.fields()], [2, 2, 1, 1, 2, 2])

    def test_an_empty_config(self):
        config = Config([], [], [], [], [], [])
        self.assertEqual(config.fields(), ((), (), (), (), (), ()))
        self.assertEqual(round_length(config), 0)
        self.assertTrue(config == Config((), (), (), (), (), ()))

    def test_tuples_stay_tuples(self):
        config = Config(tuple(partitions(1)), ((0, 200),), (), (), (0,), ())
        self.assertEqual(config, Config(partitions(1), [(0, 200)], [], [], [0], []))


class EqualityTest(unittest.TestCase):
    def test_partitions(self):
        one = Partition([1, 2], 1, 0)
        self.assertTrue(one == Partition((1, 2), 1, 0))
        self.assertFalse(one != Partition((1, 2), 1, 0))
        for other in (Partition([1, 3], 1, 0), Partition([1], 1, 0), Partition([1, 2], 2, 0), Partition([1, 2], 1, 1)):
            self.assertFalse(one == other)
            self.assertTrue(one != other)

    def test_configs(self):
        given = [partitions(1, 2), [(0, 200)], [(0, 1, 2, True)], [(0, 1)], [1], [(0, 1)]]
        others = [partitions(1, 1), [(0, 201)], [(0, 1, 2, False)], [(1, 0)], [0], [(1, 0)]]
        self.assertTrue(Config(*given) == Config(*given))
        for at in range(6):
            for other in (others[at], [], given[at] + given[at]):
                config = Config(*given[:at], other, *given[at + 1:])
                self.assertFalse(config == Config(*given), at)
                self.assertTrue(config != Config(*given), at)
                self.assertTrue(config == Config(*given[:at], tuple(other), *given[at + 1:]), at)

    def test_the_order_counts(self):
        self.assertFalse(with_frames((0, 200), (None, 300)) == with_frames((None, 300), (0, 200)))

    def test_other_kinds(self):
        one = Partition([], 1, 0)
        config = Config([one], [], [], [], [], [])
        for other in (None, 0, "", (), one.fields(), config.fields(), [one]):
            self.assertFalse(one == other)
            self.assertFalse(config == other)
        self.assertFalse(one == config)


class PageMapTest(unittest.TestCase):
    def test_own_pages_alone(self):
        for many in (1, 2, 8):
            found = page_map(Config(partitions(many), [], [], [], [], []), 0)
            self.assertEqual(found, [("own", k, 7) for k in range(many)])

    def test_shares_and_devices_by_their_numbers(self):
        config = Config(partitions(2, 1, 1), [], [], [(0, 1), (2, 1), (1, 0), (0, 2)], [1, 0, 1, 0], [])
        self.assertEqual(page_map(config, 0), [
            ("own", 0, 7), ("own", 1, 7), ("share", 0, 3), ("share", 2, 1), ("share", 3, 3), ("device", 1, 1),
            ("device", 3, 1),
        ])
        self.assertEqual(page_map(config, 1), [
            ("own", 0, 7), ("share", 0, 1), ("share", 1, 1), ("share", 2, 3), ("device", 0, 1), ("device", 2, 1),
        ])
        self.assertEqual(page_map(config, 2), [("own", 0, 7), ("share", 1, 3), ("share", 3, 1)])

    def test_equal_shares(self):
        config = Config(partitions(1, 1), [], [], [(0, 1), (0, 1)], [], [])
        self.assertEqual(page_map(config, 0), [("own", 0, 7), ("share", 0, 3), ("share", 1, 3)])
        self.assertEqual(page_map(config, 1), [("own", 0, 7), ("share", 0, 1), ("share", 1, 1)])

    def test_more_pages_than_a_partition_can_see(self):
        config = Config(partitions(8), [], [], [], [0, 0], [])
        self.assertEqual(len(page_map(config, 0)), 10)

    def test_the_list_is_new(self):
        config = Config(partitions(1), [], [], [], [], [])
        page_map(config, 0).append(7)
        self.assertEqual(page_map(config, 0), [("own", 0, 7)])


class FramesTest(unittest.TestCase):
    def test_one_frame(self):
        config = with_frames((0, 200))
        self.assertEqual([frame_start(config, number) for number in range(4)], [256, 712, 1168, 1624])
        self.assertEqual(round_length(config), 456)

    def test_several_frames(self):
        config = with_frames((0, 128), (None, 4000), (0, 1000))
        starts = [256, 640, 4896]
        self.assertEqual(round_length(config), 5896)
        for number in range(12):
            self.assertEqual(frame_start(config, number), starts[number % 3] + number // 3 * 5896)

    def test_far_frames(self):
        config = with_frames((0, 128), (None, 4000))
        self.assertEqual(frame_start(config, 2 * 10 ** 9 + 1), 10 ** 9 * 4640 + 640)
        self.assertEqual(frame_start(with_frames(*[(0, 4000)] * 16), 16), 16 * 4256 + 256)

    def test_each_frame_begins_a_gap_behind_the_end_of_the_one_before(self):
        config = with_frames((0, 130), (0, 131), (None, 132))
        for number in range(20):
            ticks = config.frames[number % 3][1]
            self.assertEqual(frame_start(config, number + 1) - frame_start(config, number), ticks + 256)


class FlowsTest(unittest.TestCase):
    def test_may_flow(self):
        config = with_flows(3, (0, 1), (1, 2))
        found = [(a, b) for a in range(3) for b in range(3) if may_flow(config, a, b)]
        self.assertEqual(found, [(0, 0), (0, 1), (1, 1), (1, 2), (2, 2)])
        self.assertIs(may_flow(config, 0, 0), True)
        self.assertIs(may_flow(config, 0, 1), True)
        self.assertIs(may_flow(config, 0, 2), False)
        self.assertIs(may_flow(config, 1, 0), False)

    def test_no_flows(self):
        config = with_flows(3)
        self.assertEqual([sources_of(config, p) for p in range(3)], [[0], [1], [2]])

    def test_over_others(self):
        config = with_flows(5, (3, 2), (2, 1), (1, 0), (4, 4))
        self.assertEqual([sources_of(config, p) for p in range(5)], [[0, 1, 2, 3], [1, 2, 3], [2, 3], [3], [4]])
        config = with_flows(5, (0, 1), (1, 2), (2, 3), (3, 4))
        self.assertEqual(sources_of(config, 4), [0, 1, 2, 3, 4])

    def test_in_circles(self):
        config = with_flows(5, (0, 1), (1, 2), (2, 0), (3, 0))
        self.assertEqual([sources_of(config, p) for p in range(5)], [[0, 1, 2, 3]] * 3 + [[3], [4]])

    def test_all_to_all(self):
        config = with_flows(8, *[(a, b) for a in range(8) for b in range(8)])
        self.assertEqual([sources_of(config, p) for p in range(8)], [list(range(8))] * 8)

    def test_the_list_is_new(self):
        config = with_flows(2, (0, 1))
        sources_of(config, 1).append(7)
        self.assertEqual(sources_of(config, 1), [0, 1])


if __name__ == "__main__":
    unittest.main()
