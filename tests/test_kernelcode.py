"""merestone.kernelcode: point 09.1, and the pages of the kernel."""

import unittest

from merestone import config as bounds
from merestone.codes import decode, encode
from merestone.config import Config, Partition, page_map
from merestone.kernelcode import code_words, kernel_of, layout_of
from merestone.kerneltext import NAMED
from merestone.machine import Machine
from systems import COUNTER, all_flows, alone, pair, program, some_config, taken

KINDS = ("own", "share", "device")


def largest():
    """As many of all things as the judge takes."""
    partitions = [Partition([7] * 16 * many, many, 0) for many in (8, 6, 6, 6, 5, 5, 5, 5)]
    pairs = [(1, 2), (3, 4), (5, 6), (7, 1), (2, 3), (4, 5)]
    return taken(Config(
        partitions, [(k % 8, 4000) for k in range(16)], [(k % 8, (k + 1) % 8, 8, True) for k in range(12)], pairs,
        [6, 7, 4, 5, 6, 7], all_flows(8)))


def all_pages(config):
    """The numbers of the physical pages of all pages, in the order of point 09.1."""
    layout = layout_of(config)
    found = [layout.page(p, "own", k) for p, each in enumerate(config.partitions) for k in range(each.pages)]
    found += [layout.page(0, "share", k) for k in range(len(config.shares))]
    return found + [layout.page(0, "device", k) for k in range(len(config.devices))]


class KernelTest(unittest.TestCase):
    def configs(self):
        small = [alone(COUNTER, 200), alone(COUNTER, 200, devices=[0, 0])]
        return [largest(), *small, *[some_config(k) for k in range(20)]]

    def test_the_memory_is_one_of_a_machine(self):
        for config in self.configs():
            memory = kernel_of(config)
            self.assertIs(type(memory), list)
            self.assertEqual(len(memory) % 16, 0)
            self.assertTrue(all(type(word) is int and 0 <= word <= 65535 for word in memory))

    def test_at_most_4096_words_besides_the_pages(self):
        for config in self.configs():
            pages = sum(each.pages for each in config.partitions) + len(config.shares) + len(config.devices)
            self.assertLessEqual(len(kernel_of(config)) - 16 * pages, 4096)
            self.assertGreater(len(kernel_of(config)) - 16 * pages, 0)

    def test_it_begins_with_code(self):
        memory = kernel_of(largest())
        words = code_words()
        self.assertEqual(memory[:len(words)], words)
        self.assertLessEqual(len(words), NAMED["VARIABLES"])
        self.assertIsNotNone(decode(memory[0]))

    def test_the_pages_stand_one_behind_the_other_at_the_end(self):
        for config in self.configs():
            pages = all_pages(config)
            self.assertEqual(pages, list(range(pages[0], pages[0] + len(pages))))
            self.assertEqual(len(kernel_of(config)), 16 * (pages[-1] + 1))
            self.assertGreater(pages[0], 0)

    def test_the_partition_plays_no_part_for_shares_and_devices(self):
        for config in self.configs():
            layout = layout_of(config)
            for p in range(len(config.partitions)):
                for kind, things in (("share", config.shares), ("device", config.devices)):
                    for index in range(len(things)):
                        self.assertEqual(layout.page(p, kind, index), layout.page(0, kind, index))

    def test_the_images_stand_where_layout_tells(self):
        for config in self.configs():
            memory, layout = kernel_of(config), layout_of(config)
            for p, partition in enumerate(config.partitions):
                start = layout.page(p, "own", 0) * 16
                many = partition.pages * 16
                expected = list(partition.image) + [0] * (many - len(partition.image))
                self.assertEqual(memory[start:start + many], expected)

    def test_all_other_pages_hold_0(self):
        for config in self.configs():
            memory, layout = kernel_of(config), layout_of(config)
            behind = layout.page(len(config.partitions) - 1, "own", config.partitions[-1].pages - 1) + 1
            self.assertEqual(memory[behind * 16:], [0] * 16 * (len(config.shares) + len(config.devices)))

    def test_the_list_is_new_and_the_config_stays(self):
        config = largest()
        kernel_of(config).clear()
        self.assertEqual(len(kernel_of(config)), 16 * (all_pages(config)[-1] + 1))
        self.assertEqual(config, largest())

    def test_a_small_layout(self):
        config = pair(program("halt", 2), program("halt", 3), [(0, 200)], (), [(0, 1), (1, 0)], [1])
        layout = layout_of(config)
        first = layout.page(0, "own", 0)
        found = [layout.page(0, "own", 1), layout.page(1, "own", 0), layout.page(1, "own", 2),
                 layout.page(0, "share", 0), layout.page(1, "share", 1), layout.page(1, "device", 0)]
        self.assertEqual(found, [first + k for k in (1, 2, 4, 5, 6, 7)])

    def test_constants_of_the_code(self):
        # The code counts on the sizes that the records have.
        self.assertEqual((bounds.GAP, bounds.CALL, bounds.VIRTUAL), (256, 96, 8))
        self.assertEqual(NAMED["CHANNEL_WORDS"], 16)
        self.assertLessEqual(NAMED["FRAMES"] + 16 * NAMED["FRAME_WORDS"], NAMED["MAPS"])
        self.assertLessEqual(NAMED["MAPS"] + 8 * NAMED["PARTITION_WORDS"], NAMED["CHANNELS"])
        self.assertLessEqual(NAMED["CHANNELS"] + 12 * NAMED["CHANNEL_WORDS"], NAMED["KERNEL_WORDS"])


class MapTest(unittest.TestCase):
    """Point 09.2: what the map shows while a partition runs."""

    def test_a_partition_sees_its_pages_with_their_rights_and_no_others(self):
        for config in [largest()] + [some_config(k) for k in range(6)]:
            layout = layout_of(config)
            for p in range(len(config.partitions)):
                # Only this partition has a frame.
                machine = Machine(kernel_of(Config(config.partitions, [(p, 200)], *config.fields()[2:])), [], [])
                machine.run(256)
                self.assertEqual((machine.mode, machine.tick), ("user", 256))
                address = machine.specials[3]
                expected = [layout.page(p, kind, index) * 8 + rights for kind, index, rights in page_map(config, p)]
                self.assertEqual(machine.memory[address:address + 8], expected + [0] * (8 - len(expected)))

    def test_the_map_and_the_kernel_are_in_no_page_that_is_seen(self):
        for config in [largest()] + [some_config(k) for k in range(6)]:
            self.assertGreaterEqual(min(all_pages(config)) * 16, NAMED["KERNEL_WORDS"])

    def test_the_kernel_never_stores_into_pages_that_are_seen(self):
        config = pair(program("loop: call 3\ncall 1\nbeq r1, r1, loop"), program("loop: call 2\nbeq r1, r1, loop"),
                      [(0, 300), (1, 300)], [(0, 1, 2, True)], [(0, 1)], [0])
        machine = Machine(kernel_of(config), [layout_of(config).page(0, "device", 0) * 16], [])
        before = machine.memory[NAMED["KERNEL_WORDS"]:]
        machine.run(10000)
        self.assertEqual((machine.memory[NAMED["KERNEL_WORDS"]:], machine.mode != "broken"), (before, True))

    def test_the_first_instruction_is_encoded(self):
        self.assertEqual(code_words()[:2], [encode("set", 7, 0, 0), NAMED["VARIABLES"]])


if __name__ == "__main__":
    unittest.main()
