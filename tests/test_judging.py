"""merestone.judging: chapter 07."""

import unittest

from merestone.config import Config, Partition
from merestone.judging import count_fault, flow_fault, judge, shape_fault

# Values that are no number of a partition, of ticks, of words and so on.
STRANGE = (None, True, False, "", "1", "ab", (), (0,), (0, 1), ((0, 1), (0, 1)))


def partitions(many, pages=1):
    return [Partition([], pages, 0) for _ in range(many)]


def config_of(**given):
    """A configuration that is taken, but for what is given."""
    fields = {
        "partitions": partitions(3), "frames": [(0, 200), (None, 128), (2, 4000)],
        "channels": [(0, 1, 1, False), (1, 0, 8, True)], "shares": [(0, 1)], "devices": [2, 2],
        "flows": [(0, 1), (1, 0)], **given,
    }
    return Config(**fields)


class JudgeTest(unittest.TestCase):
    def assert_fault(self, config, fault):
        found = judge(config)
        self.assertEqual(found, fault)
        self.assertIs(type(found), type(fault))
        if fault is not None:
            self.assertEqual([type(each) for each in found], [str, int])

    def assert_part(self, name, part, kind):
        """A thing behind proper ones of its kind is a fault with its index; alone, with 0."""
        proper = {
            "partitions": Partition([], 1, 0), "frames": (0, 200), "channels": (0, 1, 1, False), "shares": (0, 1),
            "devices": 2, "flows": (0, 1),
        }[name]
        config = config_of(**{name: [proper, proper, part]})
        self.assert_fault(config, (kind, 2))
        self.assertEqual(shape_fault(config), (kind, 2))
        self.assertIsNone(count_fault(config))
        if name != "partitions":
            self.assert_fault(config_of(**{name: [part]}), (kind, 0))
        self.assert_fault(config_of(**{name: [proper, part, proper, part]}), (kind, 1))

    def assert_fits(self, **given):
        config = config_of(**given)
        self.assert_fault(config, None)
        self.assertEqual([count_fault(config), shape_fault(config), flow_fault(config)], [None] * 3)


class ExamplesTest(JudgeTest):
    def test_example(self):
        two = [Partition([], 1, 0), Partition([], 1, 0)]
        found = [judge(Config(two, [(0, 200)], [(0, 1, 2, told)], [], [], [(0, 1)])) for told in (False, True)]
        self.assertEqual(found, [None, ("tells", 0)])

    def test_a_configuration_that_is_taken(self):
        self.assert_fits()
        self.assert_fault(Config(partitions(1), [(None, 128)], [], [], [], []), None)

    def test_the_configuration_stays(self):
        config = config_of(channels=[(0, 2, 1, False)])
        judge(config)
        self.assertEqual(config, config_of(channels=[(0, 2, 1, False)]))


class CountsTest(JudgeTest):
    def assert_counts(self, name, part, least, most):
        for many in (least, most):
            self.assertIsNone(count_fault(config_of(**{name: [part] * many})))
            self.assert_fits(**{name: [part] * many})
        for many in [most + 1, most + 100] + [0] * least:
            config = config_of(**{name: [part] * many})
            self.assert_fault(config, (name, many))
            self.assertEqual(count_fault(config), (name, many))

    def test_partitions(self):
        for many in (1, 8):
            self.assert_fault(Config(partitions(many), [(0, 200)], [], [], [], []), None)
        for many in (0, 9, 100):
            self.assert_fault(Config(partitions(many), [(0, 200)], [], [], [], []), ("partitions", many))

    def test_frames(self):
        self.assert_counts("frames", (0, 200), 1, 16)

    def test_channels(self):
        self.assert_counts("channels", (0, 1, 1, True), 0, 12)

    def test_shares(self):
        self.assert_counts("shares", (0, 1), 0, 6)

    def test_devices(self):
        self.assert_counts("devices", 2, 0, 6)

    def test_flows(self):
        for many in (2, 64):
            self.assert_fits(flows=([(0, 1), (1, 0)] * many)[:many])
        self.assert_fault(config_of(flows=[(0, 1)] * 65), ("flows", 65))
        self.assert_fault(config_of(flows=[], channels=[], shares=[]), None)

    def test_the_order_of_the_counts(self):
        given = [partitions(9), [], [(0, 1, 1, True)] * 13, [(0, 1)] * 7, [0] * 8, [(0, 1)] * 70]
        proper = [partitions(2), [(0, 200)], [], [], [], [(0, 1)]]
        faults = [("partitions", 9), ("frames", 0), ("channels", 13), ("shares", 7), ("devices", 8), ("flows", 70)]
        for at in range(6):
            self.assert_fault(Config(*proper[:at], *given[at:]), faults[at])

    def test_counts_come_before_shapes(self):
        self.assert_fault(config_of(partitions=[Partition([], 0, 0)], flows=[None] * 65), ("flows", 65))


class PartitionsTest(JudgeTest):
    def assert_partition(self, partition):
        self.assert_part("partitions", partition, "partition")

    def test_pages(self):
        for pages in (1, 8):
            self.assert_fault(Config([Partition([], pages, 0)], [(0, 200)], [], [], [], []), None)
        for pages in (0, -1, 9, 1000, True, False):
            self.assert_partition(Partition([], pages, 0))

    def test_the_image_fills_its_pages(self):
        for pages in (1, 2, 8):
            config = Config([Partition([7] * (pages * 16), pages, 0)], [(0, 200)], [], [], [], [])
            self.assert_fault(config, None)
            self.assert_partition(Partition([7] * (pages * 16 + 1), pages, 0))

    def test_the_words_of_the_image(self):
        config = Config([Partition([0, 65535], 1, 0)], [(0, 200)], [], [], [], [])
        self.assert_fault(config, None)
        for word in (-1, 65536, 10 ** 30, *STRANGE):
            self.assert_partition(Partition([word], 1, 0))
            self.assert_partition(Partition([0] * 15 + [word], 1, 0))

    def test_the_start(self):
        for pages, start in ((1, 0), (1, 15), (2, 31), (8, 127)):
            config = Config([Partition([], pages, start)], [(0, 200)], [], [], [], [])
            self.assert_fault(config, None)
            self.assert_partition(Partition([], pages, pages * 16))
        for start in (-1, 16, 127, 65536, True, False):
            self.assert_partition(Partition([], 1, start))


class FramesTest(JudgeTest):
    def test_ticks(self):
        self.assert_fits(frames=[(0, 128), (1, 4000), (None, 128), (None, 4000)])
        for ticks in (127, 4001, 0, -128, *STRANGE):
            self.assert_part("frames", (0, ticks), "frame")
            self.assert_part("frames", (None, ticks), "frame")

    def test_partitions(self):
        self.assert_fits(frames=[(0, 200), (2, 200)])
        for p in (-1, 3, 65536, True, False, "", "0", (), (0,)):
            self.assert_part("frames", (p, 200), "frame")

    def test_other_shapes(self):
        for frame in (None, 0, 200, True, "", "ab", (), (0,), (0, 200, 0), (200,), ((0, 200),)):
            self.assert_part("frames", frame, "frame")


class ChannelsTest(JudgeTest):
    def test_source_and_target(self):
        for p in (-1, 3, 8, *STRANGE):
            self.assert_part("channels", (p, 1, 1, False), "channel")
            self.assert_part("channels", (1, p, 1, False), "channel")
        for p in range(3):
            self.assert_part("channels", (p, p, 1, False), "channel")

    def test_capacity(self):
        for capacity in (1, 2, 7, 8):
            self.assert_fits(channels=[(0, 1, capacity, False)])
        for capacity in (0, 9, -1, 100, *STRANGE):
            self.assert_part("channels", (0, 1, capacity, True), "channel")

    def test_told(self):
        for told in (True, False):
            self.assert_fits(channels=[(0, 1, 1, told)])
        for told in (0, 1, 2, -1, None, "", "True", (), (True,)):
            self.assert_part("channels", (0, 1, 1, told), "channel")

    def test_other_shapes(self):
        for channel in (None, 0, True, "", "abcd", (), (0, 1), (0, 1, 1), (0, 1, 1, True, True), ((0, 1, 1, True),)):
            self.assert_part("channels", channel, "channel")


class PairsTest(JudgeTest):
    def test_shares_and_flows(self):
        for name, kind in (("shares", "share"), ("flows", "flow")):
            for p in (-1, 3, 8, *STRANGE):
                self.assert_part(name, (p, 1), kind)
                self.assert_part(name, (1, p), kind)
            for p in range(3):
                self.assert_part(name, (p, p), kind)
            for pair in (None, 0, True, "", "ab", (), (0,), (0, 1, 2), ((0, 1),)):
                self.assert_part(name, pair, kind)

    def test_devices(self):
        self.assert_fits(devices=[0, 1, 2, 2])
        for owner in (-1, 3, 8, *STRANGE):
            self.assert_part("devices", owner, "device")


class PagesTest(JudgeTest):
    def test_exactly_8_pages(self):
        self.assert_fault(Config([Partition([], 8, 0)], [(0, 200)], [], [], [], []), None)
        two = [Partition([], 2, 0), Partition([], 5, 0)]
        flows = [(0, 1), (1, 0)]
        shares = [(0, 1), (1, 0)]
        self.assert_fault(Config(two, [(0, 200)], [], shares, [1, 0, 0, 0, 0], flows), None)
        self.assert_fault(Config(two, [(0, 200)], [], shares, [1, 0, 0, 0, 0, 0], flows), ("pages", 0))
        self.assert_fault(Config(two, [(0, 200)], [], shares, [1, 1, 0, 0, 0, 0], flows), ("pages", 1))
        self.assert_fault(Config(two, [(0, 200)], [], shares * 2, [1], flows), ("pages", 1))

    def test_one_page_more_of_each_kind(self):
        for shares, devices, p in (([(0, 1)], [], 0), ([(1, 0)], [], 0), ([], [0], 0)):
            two = [Partition([], 8, 0), Partition([], 1, 0)]
            config = Config(two, [(0, 200)], [], shares, devices, [(0, 1), (1, 0)])
            self.assert_fault(config, ("pages", p))
            self.assertEqual(shape_fault(config), ("pages", p))

    def test_the_first_partition(self):
        config = Config(partitions(3, 8), [(0, 200)], [], [], [2, 1], [])
        self.assert_fault(config, ("pages", 1))


class OrderTest(JudgeTest):
    def test_kinds_of_shapes_in_their_order(self):
        bad = {
            "partitions": [Partition([], 8, 0), Partition([], 1, 99)], "frames": [(0, 5)],
            "channels": [(0, 0, 1, True)], "shares": [(0, 0)], "devices": [9], "flows": [(1, 1)],
        }
        good = {
            "partitions": [Partition([], 8, 0), Partition([], 1, 0)], "frames": [(0, 200)],
            "channels": [(0, 1, 1, True)], "shares": [(0, 1)], "devices": [0], "flows": [],
        }
        names = list(bad)
        kinds = ("partition", "frame", "channel", "share", "device", "flow")
        indexes = (1, 0, 0, 0, 0, 0)
        for at in range(6):
            given = {name: (good if names.index(name) < at else bad)[name] for name in names}
            self.assert_fault(Config(**given), (kinds[at], indexes[at]))
        # The pages come behind all shapes, and ahead of what may flow.
        self.assert_fault(Config(**good), ("pages", 0))
        good["partitions"] = partitions(2)
        self.assert_fault(Config(**good), ("sends", 0))

    def test_the_first_index(self):
        self.assert_fault(config_of(frames=[(0, 200), (0, 1), (None, 1), (9, 200)]), ("frame", 1))
        self.assert_fault(config_of(devices=[0, 0, 3, 4]), ("device", 2))


class FlowsTest(JudgeTest):
    def test_sends(self):
        for told in (True, False):
            config = config_of(channels=[(0, 1, 1, True), (0, 2, 1, told)])
            self.assert_fault(config, ("sends", 1))
            self.assertEqual(flow_fault(config), ("sends", 1))
            self.assertEqual([count_fault(config), shape_fault(config)], [None, None])

    def test_tells(self):
        self.assert_fault(config_of(channels=[(0, 1, 1, True)], shares=[], flows=[(0, 1)]), ("tells", 0))
        self.assert_fault(config_of(channels=[(0, 1, 1, False)], shares=[], flows=[(0, 1)]), None)
        self.assert_fault(config_of(channels=[(0, 1, 1, True)], shares=[], flows=[(1, 0)]), ("sends", 0))

    def test_shows(self):
        self.assert_fault(config_of(channels=[], shares=[(0, 1), (1, 0)], flows=[(0, 1)]), ("shows", 1))
        self.assert_fault(config_of(channels=[], shares=[(0, 1)], flows=[(1, 0)]), ("shows", 0))
        self.assert_fault(config_of(channels=[], shares=[(0, 1), (0, 1)], flows=[(0, 1)]), None)

    def test_both_faults_of_one_channel(self):
        self.assert_fault(config_of(channels=[(0, 2, 1, True)]), ("sends", 0))

    def test_one_fault_of_each_of_two_channels(self):
        channels = [(0, 1, 1, True), (0, 2, 1, False)]
        self.assert_fault(config_of(channels=channels, shares=[], flows=[(0, 1)]), ("tells", 0))
        self.assert_fault(config_of(channels=channels[::-1], shares=[], flows=[(0, 1)]), ("sends", 0))

    def test_channels_come_before_shares(self):
        given = {"channels": [(0, 1, 1, False), (0, 1, 1, True)], "shares": [(0, 2)]}
        self.assert_fault(config_of(flows=[(0, 1)], **given), ("tells", 1))
        self.assert_fault(config_of(flows=[(0, 1), (1, 0)], **given), ("shows", 0))

    def test_the_policy_need_not_be_transitive(self):
        flows = [(0, 1), (1, 2)]
        self.assert_fault(config_of(channels=[(0, 1, 1, False), (1, 2, 1, False)], shares=[], flows=flows), None)
        self.assert_fault(config_of(channels=[(0, 2, 1, False)], shares=[], flows=flows), ("sends", 0))
        self.assert_fault(config_of(channels=[], shares=[(0, 2)], flows=flows), ("shows", 0))


if __name__ == "__main__":
    unittest.main()
