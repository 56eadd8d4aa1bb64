"""merestone.views: chapter 11: views, histories, borders, and partitions that run alone."""

import random
import unittest

from merestone.config import GAP, Config, Partition, frame_start, sources_of
from merestone.plain import Plain, run_plain
from merestone.views import Book, alone as runs_alone, border, histories, view
from systems import (
    COUNTER, RECEIVER, SENDER, SLEEPER, all_flows, alone, pair, program, some_images, some_inputs, some_policy_config,
    taken, with_images,
)

EMPTY = (0,) * 16
WRITER = program("set r1, 16\nloop: addi r2, r2, 1\nstore r2, r1, 3\nbeq r0, r0, loop")
READER = program("set r1, 16\nloop: load r2, r1, 3\nadd r3, r3, r2\nbeq r0, r0, loop")


def page(*words):
    return tuple(words) + (0,) * (16 - len(words))


def at_end(config, inputs, count, book):
    return histories(config, inputs, count, book)[count]


def other_image(config, p, image):
    partitions = list(config.partitions)
    partitions[p] = Partition(image, partitions[p].pages, partitions[p].start)
    return Config(partitions, *config.fields()[1:])


class ViewTest(unittest.TestCase):
    def test_a_view_is_trace_state_and_other_pages(self):
        config = pair(WRITER, READER, [(0, 200), (1, 200)], (), [(0, 1), (1, 0)], [1, 0, 1])
        plain = run_plain(config, [(300, 1, 7), (400, 2, 9), (500, 0, 8)], 2)
        shares, devices, _ = plain.rest()
        self.assertEqual(view(plain, 0), (tuple(plain.trace(0)), plain.state(0), (*shares, devices[1])))
        self.assertEqual(view(plain, 1), (tuple(plain.trace(1)), plain.state(1), (*shares, devices[0], devices[2])))
        self.assertEqual(view(plain, 1)[2][2:], (page(1, 0, 8), page(1, 0, 9)))

    def test_pages_of_others_are_not_seen(self):
        three = [WRITER, READER, COUNTER]
        config = taken(Config(three, [(0, 200), (1, 200), (2, 200)], [], [(0, 1)], [0], [(0, 1)]))
        plain = run_plain(config, [(1, 0, 5)], 3)
        self.assertEqual(view(plain, 2), (tuple(plain.trace(2)), plain.state(2), ()))
        self.assertEqual(len(view(plain, 0)[2]), 2)

    def test_kinds_of_values(self):
        plain = run_plain(pair(WRITER, READER, [(0, 200)], (), [(0, 1)], [1]), [], 1)
        seen = view(plain, 1)
        self.assertEqual([type(part) for part in (seen, *seen)], [tuple] * 4)
        self.assertEqual([type(words) for words in seen[2]], [tuple] * 2)

    def test_before_the_first_frame(self):
        plain = Plain(alone(Partition([7], 1, 3), 200, devices=[0]), [(0, 0, 1)])
        self.assertEqual(view(plain, 0), ((), ((0,) * 8, 3, None, (page(7),)), (EMPTY,)))


class BookTest(unittest.TestCase):
    def test_numbers_of_keys(self):
        book = Book()
        keys = [0, "a", (1, 2), (1, (2, "a")), None, b"x", ((), ()), ()]
        numbers = [book.number(key) for key in keys]
        self.assertTrue(all(type(number) is int for number in numbers))
        self.assertEqual(len(set(numbers)), len(keys))
        self.assertEqual([book.number(key) for key in reversed(keys)], numbers[::-1])

    def test_books_are_apart(self):
        first, second = Book(), Book()
        first.number("x")
        self.assertEqual(first.number("y") == first.number("x"), False)
        self.assertEqual(second.number("y"), Book().number("z"))


class HistoriesTest(unittest.TestCase):
    def setUp(self):
        # Something may flow from 0 to 1, and from 1 to 2, but not from 0 to 2.
        three = [Partition([1], 1, 0), Partition([2], 1, 0), Partition([3], 1, 0)]
        self.config = taken(Config(three, [(0, 200), (1, 200), (2, 200)], [], [], [0, 1, 2], [(0, 1), (1, 2)]))

    def equal(self, first, second, count=3, inputs=(), others=()):
        """For each partition, from how many frames on the histories in two systems are unlike; None if never."""
        book = Book()
        one, other = histories(first, list(inputs), count, book), histories(second, list(others), count, book)
        found = []
        for p in range(len(one[0])):
            unlike = [number for number in range(count + 1) if one[number][p] != other[number][p]]
            self.assertEqual(unlike, list(range(unlike[0], count + 1)) if unlike else [])
            found.append(unlike[0] if unlike else None)
        return found

    def test_the_form(self):
        rows = histories(self.config, [], 4, Book())
        self.assertEqual((type(rows), [type(row) for row in rows], [len(row) for row in rows]),
                         (list, [list] * 5, [3] * 5))
        self.assertTrue(all(type(number) is int for row in rows for number in row))

    def test_behind_no_frames(self):
        rows = histories(self.config, [(3, 0, 5)], 0, Book())
        self.assertEqual((len(rows), len(set(rows[0]))), (1, 3))
        self.assertEqual(self.equal(self.config, self.config, 0, [(3, 0, 5)], []), [None] * 3)

    def test_equal_systems_have_equal_histories(self):
        inputs = [(3, 0, 5), (500, 2, 6)]
        self.assertEqual(self.equal(self.config, self.config, 7, inputs, inputs), [None] * 3)
        book = Book()
        self.assertEqual(histories(self.config, inputs, 5, book), histories(self.config, inputs, 7, book)[:6])

    def test_histories_of_a_system_are_unlike_one_another(self):
        rows = histories(self.config, [], 6, Book())
        for row in rows:
            self.assertEqual(len(set(row)), 3)
        self.assertEqual([len({row[p] for row in rows}) for p in range(3)], [3, 5, 5])

    def test_an_image_word_comes_with_the_frames(self):
        # The own history at once; then those to which something may flow straight; then those behind them.
        self.assertEqual(self.equal(self.config, other_image(self.config, 0, [9])), [0, 1, 2])
        self.assertEqual(self.equal(self.config, other_image(self.config, 1, [9])), [None, 0, 2])
        self.assertEqual(self.equal(self.config, other_image(self.config, 2, [9])), [None, None, 0])
        self.assertEqual(self.equal(self.config, other_image(self.config, 2, [3, 0])), [None, None, 0])

    def test_the_history_as_it_was_just_before(self):
        # 1 runs ahead of 0: what 0 has comes to 2 only with the second frame of 1.
        config = Config(self.config.partitions, [(1, 200), (0, 200), (2, 200)], *self.config.fields()[2:])
        self.assertEqual(self.equal(config, other_image(config, 0, [9]), 6), [0, 2, 4])

    def test_inputs(self):
        for device, found in ((0, [1, 1, 2]), (1, [None, 1, 2]), (2, [None, None, 1])):
            self.assertEqual(self.equal(self.config, self.config, 3, [(300, device, 7)], []), found)
            self.assertEqual(self.equal(self.config, self.config, 3, [(300, device, 7)], [(300, device, 8)]), found)
            self.assertEqual(self.equal(self.config, self.config, 3, [(300, device, 7)], [(301, device, 7)]), found)
            twice = [(300, device, 7)] * 2
            self.assertEqual(self.equal(self.config, self.config, 3, twice, twice[:1]), found)

    def test_the_order_of_inputs_of_one_tick(self):
        first, second = [(300, 0, 7), (300, 0, 8)], [(300, 0, 8), (300, 0, 7)]
        self.assertEqual(self.equal(self.config, self.config, 1, first, second), [1, 1, None])
        # Those of different partitions do not depend on one another.
        first, second = [(300, 0, 7), (300, 2, 8)], [(300, 2, 8), (300, 0, 7)]
        self.assertEqual(self.equal(self.config, self.config, 3, first, second), [None] * 3)

    def test_devices_of_one_partition_are_told_apart(self):
        config = alone(COUNTER, 200, devices=[0, 0])
        self.assertEqual(self.equal(config, config, 1, [(300, 0, 7)], [(300, 1, 7)]), [1])

    def test_when_inputs_come(self):
        # The frames end at 456, 912 and 1368.
        for tick, found in ((0, 1), (255, 1), (256, 1), (455, 1), (456, 2), (500, 2), (711, 2), (911, 2), (912, 3),
                            (1367, 3), (1368, None)):
            self.assertEqual(self.equal(self.config, self.config, 3, [(tick, 2, 7)], []), [None, None, found])

    def test_an_input_of_the_frame_of_its_partition_comes_to_others_with_it(self):
        # 0 runs up to the tick 456: what comes later reaches 1 with the next frame of 0.
        self.assertEqual(self.equal(self.config, self.config, 4, [(455, 0, 7)], []), [1, 1, 2])
        self.assertEqual(self.equal(self.config, self.config, 4, [(456, 0, 7)], []), [2, 4, None])

    def test_idle_frames(self):
        config = Config(self.config.partitions, [(None, 200), (0, 200)], *self.config.fields()[2:])
        self.assertEqual(self.equal(config, other_image(config, 0, [9]), 4), [0, 2, None])
        self.assertEqual(self.equal(config, config, 4, [(300, 0, 7)], []), [1, 2, None])
        rows = histories(config, [(300, 2, 7)], 2, Book())
        self.assertEqual([rows[0][p] == rows[1][p] for p in range(3)], [True, True, False])
        self.assertEqual([rows[1][p] == rows[2][p] for p in range(3)], [False, False, True])

    def test_frames_are_told_by_their_numbers(self):
        # What runs is the same, but not when.
        first = Config(self.config.partitions, [(0, 200), (None, 200)], *self.config.fields()[2:])
        rows = histories(first, [], 6, Book())
        self.assertEqual(len({row[0] for row in rows}), 4)

    def test_another_policy(self):
        other = Config(*self.config.fields()[:5], [(0, 1), (1, 2), (2, 0)])
        self.assertEqual(self.equal(self.config, other), [0, 0, 0])

    def test_other_configurations(self):
        fields = self.config.fields()
        others = [
            Config(fields[0], [(0, 200), (1, 200), (2, 201)], *fields[2:]),
            Config(*fields[:2], [(0, 1, 1, False)], *fields[3:]),
            Config(*fields[:3], [(0, 1)], *fields[4:]),
            Config(*fields[:4], [0, 1, 1], fields[5]),
            Config([Partition([1], 2, 0), *fields[0][1:]], *fields[1:]),
            Config([Partition([1], 1, 1), *fields[0][1:]], *fields[1:]),
        ]
        for other in others:
            self.assertEqual(self.equal(self.config, other, 1), [0, 0, 0])

    def test_several_frames_of_one_partition(self):
        config = Config(self.config.partitions, [(0, 200), (0, 200), (1, 200)], *self.config.fields()[2:])
        self.assertEqual(self.equal(config, config, 6, [(500, 0, 7)], []), [2, 2, 3])
        rows = histories(config, [], 3, Book())
        self.assertEqual(len({row[1] for row in rows}), 4)

    def test_what_is_passed_stays(self):
        inputs = [(3, 0, 5), (500, 2, 6)]
        histories(self.config, inputs, 3, Book())
        self.assertEqual(inputs, [(3, 0, 5), (500, 2, 6)])


class SeparationTest(unittest.TestCase):
    """Points 11.3 and 11.4: what a partition sees depends on what may come to it alone."""

    def test_equal_histories_have_equal_views(self):
        unlike_systems = 0
        for number in range(60):
            source = random.Random(number)
            first = some_policy_config(number)
            many, count = len(first.partitions), 2 * len(first.frames)
            q = source.randrange(many)
            images = [each.image for each in first.partitions]
            images[q] = some_images(source, first)[q]
            second = with_images(first, images)
            one_inputs = some_inputs(first, count, 15, number)
            other_inputs = [each for each in one_inputs if first.devices[each[1]] != q or source.random() < 0.5]
            book = Book()
            one, other = histories(first, one_inputs, count, book), histories(second, other_inputs, count, book)
            plain, another = Plain(first, one_inputs), Plain(second, other_inputs)
            for behind in range(count + 1):
                for p in range(many):
                    if one[behind][p] == other[behind][p]:
                        self.assertEqual(view(plain, p), view(another, p), (number, behind, p))
                        unlike_systems += images != [each.image for each in first.partitions]
                    if q not in sources_of(first, p):
                        self.assertEqual(one[behind][p], other[behind][p])
                plain.run_frame()
                another.run_frame()
        self.assertGreater(unlike_systems, 400)

    def test_views_do_not_depend_on_partitions_that_are_no_sources(self):
        found = 0
        for number in range(60, 110):
            source = random.Random(number)
            config = some_policy_config(number)
            count = 2 * len(config.frames)
            inputs = some_inputs(config, count, 15, number)
            p = source.randrange(len(config.partitions))
            known = sources_of(config, p)
            images = [each.image if q in known else some_images(source, config)[q]
                      for q, each in enumerate(config.partitions)]
            others = [each for each in inputs if config.devices[each[1]] in known]
            found += len(known) < len(config.partitions)
            self.assertEqual(view(run_plain(config, inputs, count), p),
                             view(run_plain(with_images(config, images), others, count), p))
        self.assertGreater(found, 10)

    def test_a_source_is_seen(self):
        # The same, with a flow: the view does depend on it.
        config = pair(SENDER, RECEIVER, [(0, 300), (1, 300)], [(0, 1, 2, False)])
        other = other_image(config, 0, SLEEPER.image)
        self.assertNotEqual(view(run_plain(config, [], 2), 1), view(run_plain(other, [], 2), 1))


class BorderTest(unittest.TestCase):
    def test_words_that_were_sent_to_it(self):
        for told in (True, False):
            plain = run_plain(pair(SENDER, RECEIVER, [(0, 400), (1, 400)], [(0, 1, 1, told)]), [], 2)
            sent = [("send", 258, 0, 1), ("send", 358, 0, 2), ("send", 458, 0, 3), ("send", 558, 0, 4)]
            self.assertEqual([event for event in plain.events if event[0] == "send"], sent)
            self.assertEqual(border(plain, 1), sent)

    def test_what_was_taken_out_of_own_told_channels(self):
        taken_out = [("take", 913, 0)]
        for told, found in ((True, taken_out), (False, [])):
            plain = run_plain(pair(SENDER, RECEIVER, [(0, 400), (1, 400)], [(0, 1, 1, told)]), [], 2)
            self.assertEqual([event for event in plain.events if event[0] == "take"], taken_out)
            self.assertEqual(border(plain, 0), found)

    def test_writes_to_shared_pages(self):
        config = pair(WRITER, READER, [(0, 130), (1, 130)], (), [(0, 1)])
        plain = run_plain(config, [], 2)
        self.assertEqual(border(plain, 0), [])
        self.assertEqual(border(plain, 1), plain.events)
        self.assertEqual(border(plain, 1)[:2], [("write", 258, 0, 3, 1), ("write", 261, 0, 3, 2)])

    def test_events_of_others_are_not_in_it(self):
        three = [SENDER, RECEIVER, COUNTER]
        config = taken(Config(three, [(0, 300), (1, 300), (2, 300)], [(0, 1, 2, True)], [(0, 1)], [], all_flows(3)))
        plain = run_plain(config, [], 3)
        self.assertGreater(len(plain.events), 3)
        self.assertEqual((border(plain, 2), type(border(plain, 2))), ([], list))

    def test_it_is_new(self):
        plain = run_plain(pair(SENDER, RECEIVER, [(0, 400)], [(0, 1, 1, True)]), [], 1)
        border(plain, 1).clear()
        self.assertEqual(len(border(plain, 1)), 4)


class AloneTest(unittest.TestCase):
    def assert_alone(self, config, inputs, count):
        """Each partition alone sees what it sees in the whole system."""
        plain = run_plain(config, inputs, count)
        for p in range(len(config.partitions)):
            images = [each.image if q == p else [] for q, each in enumerate(config.partitions)]
            own = [each for each in inputs if config.devices[each[1]] == p]
            expected = view(plain, p)
            self.assertEqual(runs_alone(config, p, inputs, border(plain, p), count), expected)
            self.assertEqual(runs_alone(with_images(config, images), p, own, border(plain, p), count), expected)
        return plain

    def test_channels(self):
        for told in (True, False):
            for capacity in (1, 2, 8):
                for frames in ([(0, 700), (1, 300)], [(0, 300), (1, 700)], [(1, 200), (0, 1000), (None, 128)]):
                    self.assert_alone(pair(SENDER, RECEIVER, frames, [(0, 1, capacity, told)]), [], 7)

    def test_without_its_border_it_sees_something_else(self):
        config = pair(SENDER, RECEIVER, [(0, 700), (1, 300)], [(0, 1, 2, True)])
        plain = run_plain(config, [], 4)
        for p in (0, 1):
            self.assertNotEqual(runs_alone(config, p, [], [], 4), view(plain, p))

    def test_shared_pages(self):
        self.assert_alone(pair(WRITER, READER, [(0, 200), (1, 200)], (), [(0, 1), (1, 0)]), [], 6)
        # Each one reads its own page, and that of the other one.
        text = "set r1, {}\nset r2, {}\nloop: load r3, r1, 3\nload r4, r2, 3\nadd r5, r3, r4\naddi r5, r5, 1\n" \
               "store r5, r1, 3\nbeq r0, r0, loop"
        both = [program(text.format(16, 32)), program(text.format(32, 16))]
        plain = self.assert_alone(pair(*both, [(0, 200), (1, 200)], (), [(0, 1), (1, 0)]), [], 6)
        self.assertEqual((plain.state(0)[2], plain.state(1)[2]), (None, None))

    def test_inputs(self):
        reads = program("set r1, 16\nloop: load r2, r1, 0\nload r3, r1, 2\nadd r4, r4, r3\nbeq r0, r0, loop")
        config = pair(reads, reads, [(0, 200), (1, 200), (None, 128)], (), (), [0, 1])
        self.assert_alone(config, [(37 * k, k % 2, k) for k in range(60)], 6)

    def test_ends_and_calls_that_come_too_late(self):
        late = program("loop: addi r2, r2, 1\nset r0, 0\ncall 1\naddi r3, r3, 1\nbeq r4, r4, loop")
        for text in ("call 3\nhalt", "set r0, 0\ncall 2\nset r0, 0\ncall 2\nload r1, r0, 15\nset r1, 99\njump r1"):
            self.assert_alone(pair(late, program(text), [(0, 130), (1, 300)], [(0, 1, 1, True)]), [], 9)

    def test_many_configurations(self):
        for number in range(80):
            config = some_policy_config(number)
            self.assert_alone(config, some_inputs(config, 12, 40, number), 12)

    def test_events_at_their_ticks(self):
        # What no system does: the events come while the partition runs.
        receives = program("loop: set r0, 0\ncall 2\nadd r5, r5, r1\nbeq r2, r2, loop")
        config = pair(SENDER, receives, [(1, 800)], [(0, 1, 1, False)])
        for tick, found in ((257, 9), (258, 8), (300, 8), (356, 8)):
            # The receptions come at 257, 356 and so on.
            events = [("send", tick, 0, 9)]
            trace = runs_alone(config, 1, [], events, 1)[0]
            first = [each[0] for each in trace if each[2][1] == 9][0]
            self.assertEqual(first, 353 if found == 9 else 452, tick)

    def test_events_in_the_order_of_the_list(self):
        receives = program("loop: set r0, 0\ncall 2\nadd r5, r5, r1\nbeq r2, r2, loop")
        config = pair(SENDER, receives, [(0, 200), (1, 800)], [(0, 1, 2, False)], [(0, 1)])
        events = [("send", 300, 0, 5), ("write", 300, 0, 2, 3), ("send", 300, 0, 6), ("send", 301, 0, 7),
                  ("write", 301, 0, 2, 4)]
        seen = runs_alone(config, 1, [], events, 2)
        self.assertEqual((seen[1][0][5], seen[2]), (5 + 6 * 7, (page(0, 0, 4),)))
        seen = runs_alone(config, 1, [], [events[2], events[0], events[4], events[1]], 2)
        self.assertEqual((seen[1][0][5], seen[2]), (6 + 5 * 7, (page(0, 0, 3),)))

    def test_events_behind_the_last_frame_do_not_come(self):
        config = pair(WRITER, READER, [(0, 200), (1, 200)], (), [(0, 1)])
        plain = run_plain(config, [], 5)
        for count in range(6):
            self.assertEqual(runs_alone(config, 1, [], border(plain, 1), count), view(run_plain(config, [], count), 1))

    def test_what_is_passed_stays(self):
        config = pair(SENDER, RECEIVER, [(0, 700), (1, 300)], [(0, 1, 2, True)], devices=[0])
        events, inputs = border(run_plain(config, [], 4), 0), [(3, 0, 4)]
        copies = list(events), list(inputs)
        runs_alone(config, 0, inputs, events, 4)
        self.assertEqual((events, inputs), copies)
        self.assertEqual(frame_start(config, 0), GAP)


if __name__ == "__main__":
    unittest.main()
