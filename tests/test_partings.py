"""merestone.partings: chapter 12."""

import unittest

from merestone.config import Config, Partition
from merestone.judging import judge
from merestone.partings import parting, proper_parting
from merestone.plain import run_plain
from merestone.views import Book, histories, view
from systems import COUNTER, SENDER, some_policy_config, with_images

TWO = [Partition([], 1, 0), Partition([], 1, 0)]
THREE = [*TWO, Partition([], 2, 0)]


def config_of(partitions=TWO, frames=((0, 200), (1, 200)), channels=(), shares=(), devices=(), flows=()):
    return Config(partitions, frames, channels, shares, devices, flows)


def first_difference(p, first, second, most):
    for number in range(most + 1):
        if view(run_plain(first, [], number), p) != view(run_plain(second, [], number), p):
            return number
    return None


class PartingTest(unittest.TestCase):
    def assert_parting(self, config, p, number):
        """A parting is found for a partition, behind so many frames, and it is one."""
        self.assertIn(judge(config)[0], ("sends", "tells", "shows"))
        found = parting(config)
        self.assertEqual((type(found), len(found), found[0], found[3]), (tuple, 4, p, number))
        _, first, second, _ = found
        for each in (first, second):
            self.assertEqual(each.fields()[1:], config.fields()[1:])
            self.assertEqual([one.pages for one in each.partitions], [one.pages for one in config.partitions])
            self.assertEqual({one.start for one in each.partitions}, {0})
        self.assertEqual(first_difference(p, first, second, 3 * len(config.frames)), number)
        book = Book()
        one, other = histories(first, [], number, book), histories(second, [], number, book)
        self.assertEqual(one[number][p], other[number][p])
        self.assertIs(proper_parting(config, found), True)
        return found

    def test_example(self):
        found = parting(config_of(channels=[(0, 1, 2, False)]))
        self.assertEqual([found[0], found[3], parting(Config(TWO, [(0, 200)], [], [], [], []))], [1, 2, None])

    def test_a_channel_that_sends(self):
        for told in (True, False):
            self.assert_parting(config_of(channels=[(0, 1, 2, told)]), 1, 2)
            self.assert_parting(config_of(channels=[(1, 0, 2, told)]), 0, 3)
        flows = [(1, 0)]
        self.assert_parting(config_of(channels=[(0, 1, 2, True)], flows=flows), 1, 2)
        # The first fault is told: the channel 1.
        self.assert_parting(config_of(channels=[(1, 0, 2, False), (0, 1, 2, False)], flows=flows), 1, 2)

    def test_the_images(self):
        config = config_of(THREE, [(0, 200), (1, 200)], [(0, 1, 2, False)])
        _, first, second, _ = self.assert_parting(config, 1, 2)
        self.assertEqual(first.partitions[1:], second.partitions[1:])
        # In the first one, the source rests as the third partition does.
        self.assertEqual(first.partitions[0].image, first.partitions[2].image)
        ticks = [each[0] for each in run_plain(second, [], 3).trace(0)]
        self.assertEqual(ticks[:5], [256, 257, 258, 354, 355])
        ticks = [each[0] for each in run_plain(second, [], 2).trace(1)]
        self.assertEqual(ticks[:5], [712, 713, 809, 810, 811])
        self.assertEqual([each[0] for each in run_plain(first, [], 3).trace(0)], [256, 1168, 1169])

    def test_how_long_the_programs_take(self):
        # A send takes 99 ticks in all, a reception 98.
        _, _, second, _ = parting(config_of(frames=[(0, 1000), (1, 1000)], channels=[(0, 1, 8, False)]))
        plain = run_plain(second, [], 2)
        self.assertEqual([each[1] for each in plain.events if each[0] == "send"], list(range(258, 1161, 99)))
        self.assertEqual([each[1] for each in plain.events if each[0] == "take"], list(range(1513, 2249, 98)))
        self.assertEqual({each[3] for each in plain.events if each[0] == "send"}, {1})

    def test_a_channel_that_tells(self):
        flows = [(0, 1)]
        # Two sends fill it, in the first frame; they are told in the third one that the target has taken words.
        self.assert_parting(config_of(channels=[(0, 1, 1, True)], flows=flows), 0, 3)
        self.assert_parting(config_of(channels=[(0, 1, 2, True)], flows=flows), 0, 3)
        # 128 ticks are enough for one send: a channel of two words is full behind the second frame of the source.
        for capacity, number in ((1, 3), (2, 5), (3, None), (8, None)):
            config = config_of(frames=[(0, 128), (1, 128)], channels=[(0, 1, capacity, True)], flows=flows)
            if number is None:
                self.assertIsNone(parting(config))
            else:
                self.assert_parting(config, 0, number)

    def test_the_partition_of_a_channel_that_tells_sends(self):
        config = config_of(channels=[(0, 1, 1, True)], flows=[(0, 1)])
        _, first, second, _ = self.assert_parting(config, 0, 3)
        self.assertEqual(first.partitions[0], second.partitions[0])
        self.assertEqual([each[0] for each in run_plain(first, [], 3).events], ["send"] * 4)
        self.assertIn("take", [each[0] for each in run_plain(second, [], 3).events])

    def test_a_share(self):
        self.assert_parting(config_of(shares=[(0, 1)]), 1, 1)
        self.assert_parting(config_of(shares=[(1, 0)]), 0, 2)
        self.assert_parting(config_of(shares=[(0, 1), (1, 0)], flows=[(0, 1)]), 0, 2)
        _, first, second, _ = self.assert_parting(config_of(shares=[(0, 1)]), 1, 1)
        self.assertEqual({each[3:] for each in run_plain(first, [], 1).events}, {(0, 0)})
        self.assertEqual({each[3:] for each in run_plain(second, [], 1).events}, {(0, 1)})
        self.assertEqual(run_plain(second, [], 2).state(1)[2], None)

    def test_a_share_behind_others(self):
        partitions = [Partition([], 2, 0), Partition([], 3, 0), Partition([], 1, 0)]
        config = config_of(partitions, [(1, 128), (0, 128)], shares=[(2, 0), (2, 1), (0, 1)], devices=[1, 0],
                           flows=[(2, 0), (2, 1)])
        found = self.assert_parting(config, 1, 2)
        plain = run_plain(found[2], [], 3)
        self.assertEqual([plain.state(p)[2] for p in range(3)], [None] * 3)
        self.assertEqual({each[2:4] for each in plain.events}, {(2, 0)})
        self.assertIn(1, [each[2][2] for each in plain.trace(1)])

    def test_frames_of_128_ticks_and_longer_ones(self):
        for ticks in (128, 129, 200, 4000):
            self.assert_parting(config_of(frames=[(0, ticks), (1, ticks)], channels=[(0, 1, 2, False)]), 1, 2)
            self.assert_parting(config_of(frames=[(0, ticks), (1, ticks)], shares=[(0, 1)]), 1, 1)

    def test_partitions_without_a_frame(self):
        sends, shows = [(0, 1, 1, False)], [(0, 1)]
        self.assertIsNone(parting(config_of(frames=[(0, 200)], channels=sends)))
        self.assertIsNone(parting(config_of(frames=[(1, 200)], channels=sends)))
        self.assertIsNone(parting(config_of(frames=[(None, 200)], channels=sends)))
        # The reader sees the page without running.
        self.assert_parting(config_of(frames=[(0, 200)], shares=shows), 1, 1)
        self.assertIsNone(parting(config_of(frames=[(1, 200)], shares=shows)))
        for frames in ([(0, 300)], [(1, 300)]):
            self.assertIsNone(parting(config_of(frames=frames, channels=[(0, 1, 1, True)], flows=[(0, 1)])))

    def test_three_rounds_at_most(self):
        # Two sends in each of its three frames do not fill 8 words; three, or four, do.
        flows, channels = [(0, 1)], [(0, 1, 8, True)]
        frames = [(0, 290), (1, 200)]
        self.assertIsNone(parting(config_of(frames=frames, channels=channels, flows=flows)))
        self.assert_parting(config_of(frames=[(0, 320), (1, 200)], channels=channels, flows=flows), 0, 5)
        self.assert_parting(config_of(frames=[(0, 419), (1, 200)], channels=channels, flows=flows), 0, 5)
        # The last frame of the third round.
        channels = [(0, 1, 2, True)]
        self.assert_parting(config_of(frames=[(1, 200), (0, 128)], channels=channels, flows=flows), 0, 6)

    def test_what_flows_over_others(self):
        # Straight, nothing may flow from 0 to 1: over 2 it may, and does if 2 runs in time.
        flows = [(0, 2), (2, 1)]
        channels = [(0, 1, 2, False)]
        self.assert_parting(config_of(THREE, [(0, 200), (1, 200), (2, 200)], channels, flows=flows), 1, 2)
        self.assertIsNone(parting(config_of(THREE, [(0, 200), (2, 200), (1, 200)], channels, flows=flows)))
        self.assert_parting(config_of(THREE, [(0, 200), (2, 200), (1, 200)], channels, flows=flows[:1]), 1, 3)

    def test_other_faults_and_none(self):
        none = [
            config_of(channels=[(0, 1, 2, False)], flows=[(0, 1)]),
            config_of(channels=[(0, 1, 2, True)], flows=[(0, 1), (1, 0)]),
            config_of(shares=[(0, 1)], flows=[(0, 1)]),
            config_of(),
            config_of([], channels=[(0, 1, 2, False)]),
            config_of(frames=[], channels=[(0, 1, 2, False)]),
            config_of(shares=[(0, 1)] * 7),
            config_of([Partition([0] * 17, 1, 0), TWO[0]], channels=[(0, 1, 2, False)]),
            config_of(frames=[(0, 127)], shares=[(0, 1)]),
            config_of([Partition([], 8, 0), TWO[0]], shares=[(0, 1)]),
        ]
        for config in none:
            self.assertIsNone(parting(config))

    def test_what_is_found_is_a_parting(self):
        found = 0
        for number in range(60):
            config = some_policy_config(number)
            for flow in config.flows:
                less = Config(*config.fields()[:5], [each for each in config.flows if each != flow])
                answer = parting(less)
                if answer is not None:
                    self.assertTrue(proper_parting(less, answer))
                    self.assertFalse(proper_parting(config, answer))
                    found += 1
        self.assertGreater(found, 40)

    def test_the_configuration_stays(self):
        config = config_of([COUNTER, SENDER], channels=[(0, 1, 2, False)])
        fields = config.fields()
        parting(config)
        self.assertEqual(config.fields(), fields)


class ProperPartingTest(unittest.TestCase):
    def setUp(self):
        self.config = config_of([COUNTER, Partition([], 1, 5)], channels=[(0, 1, 2, False)])
        self.found = parting(self.config)

    def assert_refused(self, answer, config=None):
        self.assertIs(proper_parting(config or self.config, answer), False)

    def changed(self, config, **fields):
        values = dict(zip(("partitions", "frames", "channels", "shares", "devices", "flows"), config.fields()))
        return Config(**{**values, **fields})

    def test_a_parting(self):
        p, first, second, number = self.found
        self.assertIs(proper_parting(self.config, self.found), True)
        self.assertIs(proper_parting(self.config, (p, second, first, number)), True)

    def test_other_numbers(self):
        p, first, second, number = self.found
        self.assertEqual(number, 2)
        for other in range(61):
            # The images of partitions from which nothing may flow to it play no part in the history.
            self.assertIs(proper_parting(self.config, (p, first, second, other)), other >= 2)

    def test_numbers_behind_which_something_has_flown_over_others(self):
        config = config_of(THREE, [(0, 200), (1, 200), (2, 200)], [(0, 1, 2, False)], flows=[(0, 2), (2, 1)])
        p, first, second, number = parting(config)
        proper = [other for other in range(10) if proper_parting(config, (p, first, second, other))]
        self.assertEqual((number, proper), (2, [2]))

    def test_another_partition(self):
        _, first, second, number = self.found
        self.assert_refused((0, first, second, number))

    def test_the_same_system_twice(self):
        p, first, second, number = self.found
        self.assert_refused((p, first, first, number))
        self.assert_refused((p, second, second, number))

    def test_equal_views(self):
        p, first, _, number = self.found
        other = with_images(first, [[1024 * 4], first.partitions[1].image])
        self.assert_refused((p, first, other, number))

    def test_unlike_own_images(self):
        p, first, second, number = self.found
        other = with_images(second, [second.partitions[0].image, [0]])
        self.assert_refused((p, first, other, number))

    def test_unlike_starts(self):
        # The start of a partition is part of the configuration without its images.
        p, first, second, number = self.found
        other = self.changed(second, partitions=[Partition(second.partitions[0].image, 1, 1), second.partitions[1]])
        self.assert_refused((p, first, other, number))

    def test_equal_starts_that_are_not_those_of_the_configuration(self):
        p, first, second, number = self.found
        sleeper = [0] * 3 + list(first.partitions[0].image)
        pairs = []
        for each, image in ((first, [3 * 1024, 19 * 1024, 19 * 1024]), (second, [3 * 1024, *sleeper[3:]])):
            partitions = [Partition(each.partitions[0].image, 1, 0), each.partitions[1]]
            pairs.append(self.changed(each, partitions=partitions))
        self.assertIs(proper_parting(self.config, (p, *pairs, number)), True)

    def test_other_differences(self):
        p, first, second, number = self.found
        changes = [
            {"frames": [(0, 200), (1, 201)]}, {"frames": [(0, 200), (1, 200), (0, 200)]},
            {"channels": [(0, 1, 3, False)]}, {"channels": [(0, 1, 2, True)]}, {"shares": [(0, 1)]}, {"devices": [0]},
            {"flows": [(1, 0)]}, {"partitions": [Partition(first.partitions[0].image, 2, 0), first.partitions[1]]},
            {"partitions": [*first.partitions, Partition([], 1, 0)]},
        ]
        for change in changes:
            one, other = self.changed(first, **change), self.changed(second, **change)
            self.assert_refused((p, first, other, number))
            self.assert_refused((p, one, second, number))
            self.assert_refused((p, one, other, number))

    def test_configurations_without_such_a_fault(self):
        p, first, second, number = self.found
        for fields in ({"flows": [(0, 1)]}, {"frames": [(0, 200), (1, 127)]}, {"channels": []},
                       {"partitions": [Partition([0] * 17, 1, 0), TWO[0]]},
                       {"partitions": [Partition([], 1, 16), TWO[0]]}, {"flows": [(1, 0)] * 65}):
            config = self.changed(self.config, **fields)
            self.assert_refused(self.found, config)
            if "flows" in fields:
                answer = (p, self.changed(first, **fields), self.changed(second, **fields), number)
                self.assert_refused(answer, config)


if __name__ == "__main__":
    unittest.main()
