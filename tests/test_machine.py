"""merestone.machine: chapter 03, and chapter 05 as the machine writes its inputs."""

import unittest

from merestone import machine as module
from merestone.codes import KERNEL_ONLY, decode, encode
from merestone.machine import Machine, resumed

ZEROS = (0,) * 8
USER = (100, 1, 65535, 32768, 7, 200, 32767, 65535)
KERNEL = (20, 30, 40, 50, 60, 2, 65535, 65530)
# The user's words in the tests of user mode: the map stands at 64, the page 2 of the memory is the page 0 of the user.
MAP = 64


def word(op, a=0, b=0, c=0):
    return encode(op, a, b, c)


def at(memory, place, words):
    """A memory with words put at a place."""
    return memory[:place] + list(words) + memory[place + len(words):]


def kernel_machine(words, place=0, size=256, kernel=KERNEL, user=USER, specials=(0,) * 7, tick=0, rings=(), inputs=()):
    """A machine in kernel mode, with words at its place."""
    memory = at([0] * size, place, words)
    return resumed(("kernel", place, (user, kernel, specials), tick, 0, memory), list(rings), list(inputs))


def user_machine(words, pc=0, entries=(23,), tick=5, alarm=65535, user=USER, size=256, rings=(), inputs=()):
    """A machine in user mode, whose page 2 begins with words; the entries of its map stand at 64."""
    memory = at(at([0] * size, 32, words), MAP, entries)
    specials = (11, 12, 13, MAP, alarm, tick % 65536, 14)
    return resumed(("user", pc, (user, KERNEL, specials), tick, 0, memory), list(rings), list(inputs))


class ConstantsTest(unittest.TestCase):
    def test_constants(self):
        self.assertEqual((module.PAGE, module.USER_WORDS), (16, 128))
        self.assertEqual((module.READ, module.WRITE, module.EXECUTE, module.RIGHTS), (1, 2, 4, 8))


class BeginningTest(unittest.TestCase):
    def test_example(self):
        code = [word("set", 1), 40, word("addi", 2, 1, 15), word("store", 2, 1, 1), word("until")]
        machine = Machine(code + [0] * 59, [], [])
        machine.run(5)
        self.assertEqual(
            [machine.kernel[1:3], machine.memory[41], machine.pc, machine.tick, machine.mode],
            [[40, 39], 39, 4, 5, "kernel"],
        )

    def test_the_first_state(self):
        machine = Machine([3, 2, 1] + [0] * 13, [0], [(2, 0, 5)])
        self.assertEqual((machine.mode, machine.pc, machine.tick, machine.given), ("kernel", 0, 0, 0))
        self.assertEqual((machine.user, machine.kernel, machine.specials), ([0] * 8, [0] * 8, [0] * 7))
        self.assertEqual((machine.memory, machine.rings, machine.inputs), ([3, 2, 1] + [0] * 13, [0], [(2, 0, 5)]))
        self.assertEqual(machine.state(), ("kernel", 0, (ZEROS, ZEROS, (0,) * 7), 0, 0, (3, 2, 1) + (0,) * 13))

    def test_what_is_passed_is_copied(self):
        memory, rings, inputs = [word("set", 1), 9, word("store", 1, 0, 3)] + [0] * 29, [16], [(0, 0, 5), (1, 0, 6)]
        machine = Machine(memory, rings, inputs)
        machine.run(3)
        self.assertEqual(memory, [word("set", 1), 9, word("store", 1, 0, 3)] + [0] * 29)
        self.assertEqual((rings, inputs), ([16], [(0, 0, 5), (1, 0, 6)]))
        memory[0], rings[0] = 0, 99
        inputs.clear()
        self.assertEqual((machine.memory[0], machine.rings), (word("set", 1), [16]))
        self.assertEqual(machine.inputs, [(0, 0, 5), (1, 0, 6)])

    def test_run_of_no_ticks(self):
        machine = Machine([0] * 16, [], [])
        machine.run(0)
        self.assertEqual((machine.tick, machine.mode), (0, "kernel"))

    def test_methods_return_nothing(self):
        machine = Machine([word("until")] + [0] * 15, [], [])
        self.assertIsNone(machine.step())
        self.assertIsNone(machine.run(2))

    def test_a_state_does_not_change_with_the_machine(self):
        machine = Machine([word("addi", 1, 1, 1), word("store", 1, 0, 9)] + [word("until")] * 14, [], [])
        before = machine.state()
        machine.run(2)
        self.assertEqual(before[2:4], ((ZEROS, ZEROS, (0,) * 7), 0))
        self.assertEqual(before[5][9], word("until"))
        for part in (before, before[2], before[2][0], before[2][1], before[2][2], before[5]):
            self.assertIs(type(part), tuple)
        self.assertEqual(machine.memory[9], 1)


class KernelModeTest(unittest.TestCase):
    def assert_step(self, words, place, kernel=None, user=USER, mode="kernel", start=0, specials=None, **given):
        """One step in kernel mode, which changes just what is told."""
        machine = kernel_machine(words, start, **given)
        before = machine.state()
        machine.step()
        expected = list(before[2][1])
        for number, content in (kernel or {}).items():
            expected[number] = content
        special = list(before[2][2])
        special[5] = (before[3] + 1) % 65536
        for number, content in (specials or {}).items():
            special[number] = content
        self.assertEqual((machine.mode, machine.pc), (mode, place))
        self.assertEqual((machine.kernel, machine.user, machine.specials), (expected, list(user), special))
        self.assertEqual(machine.tick, before[3] + 1)
        return machine

    def test_ops_of_both_modes_use_the_registers_of_the_kernel(self):
        rows = (
            (word("copy", 3, 1), {3: 30}), (word("add", 3, 0, 1), {3: 50}), (word("sub", 3, 0, 1), {3: 65526}),
            (word("mul", 3, 0, 6), {3: 65516}), (word("and", 3, 0, 4), {3: 20}), (word("or", 3, 0, 5), {3: 22}),
            (word("xor", 3, 0, 4), {3: 40}), (word("shl", 3, 6, 15), {3: 32768}), (word("shr", 3, 6, 15), {3: 1}),
            (word("addi", 3, 6, 8), {3: 65527}), (word("addi", 6, 6, 1), {6: 0}),
        )
        for instruction, changed in rows:
            self.assert_step([instruction], 1, changed)
        self.assert_step([word("set", 3), 12345], 2, {3: 12345})
        self.assert_step([word("jump", 4)], 60)
        self.assert_step([word("jal", 3, 6)], 65535, {3: 1})
        self.assert_step([word("jal", 4, 4)], 60, {4: 1})

    def test_branches(self):
        rows = (("beq", 0, 0, True), ("beq", 0, 1, False), ("bne", 0, 1, True), ("bne", 1, 1, False),
                ("blt", 0, 1, True), ("blt", 1, 0, False), ("blt", 0, 6, True))
        for op, a, b, taken in rows:
            for c in (0, 7, 8, 15):
                self.assert_step([word(op, a, b, c)], 10 + 1 + (c - 8 if taken else 0), start=10)

    def test_load_and_store_take_indexes_of_the_memory(self):
        machine = kernel_machine([word("load", 3, 1, 5), word("store", 4, 1, 15), word("load", 3, 7, 7)])
        machine.memory[35] = 777
        machine.run(2)
        self.assertEqual((machine.kernel[3], machine.memory[45]), (777, 60))
        machine.step()
        # The sum is taken modulo 65536.
        self.assertEqual((machine.mode, machine.kernel[3]), ("kernel", machine.memory[1]))

    def test_the_map_plays_no_part_in_kernel_mode(self):
        machine = kernel_machine([word("store", 4, 1, 0)], specials=(0, 0, 0, 64, 0, 0, 0))
        machine.step()
        self.assertEqual((machine.memory[30], machine.mode), (60, "kernel"))

    def test_getu_and_putu(self):
        for number in range(8):
            self.assert_step([word("getu", 3, number)], 1, {3: USER[number]})
            expected = list(USER)
            expected[number] = KERNEL[1]
            self.assert_step([word("putu", number, 1)], 1, user=expected)
        self.assert_step([word("getu", 0, 0)], 1, {0: USER[0]})
        self.assert_step([word("putu", 6, 6)], 1, user=[*USER[:6], 65535, USER[7]])

    def test_gets_of_each_special_register(self):
        specials = (101, 102, 103, 104, 105, 9, 106)
        for number in range(7):
            machine = kernel_machine([word("gets", 3, 0, number)], specials=specials, tick=9)
            machine.step()
            self.assertEqual(machine.kernel, [20, 30, 40, specials[number], 60, 2, 65535, 65530])
            self.assertEqual(machine.specials, [101, 102, 103, 104, 105, 10, 106])

    def test_puts_of_each_special_register(self):
        for number in range(5):
            self.assert_step([word("puts", 1, 0, number)], 1, specials={number: 30})
            self.assert_step([word("puts", 6, 0, number)], 1, specials={number: 65535})

    def test_puts_of_others_breaks(self):
        for number in (5, 6, 7, 15):
            machine = kernel_machine([word("puts", 1) + number])
            machine.step()
            self.assertEqual(machine.mode, "broken")

    def test_the_number_of_ticks(self):
        for tick, content in ((0, 0), (1, 1), (65534, 65534), (65535, 65535), (65536, 0), (65537, 1), (131073, 1)):
            specials = (0, 0, 0, 0, 7, tick % 65536, 0)
            machine = kernel_machine([word("gets", 3, 0, 5), word("gets", 4, 0, 5)], tick=tick, specials=specials)
            self.assertEqual(machine.specials[5], content)
            machine.run(2)
            self.assertEqual(machine.kernel[3:5], [content, (content + 1) % 65536])
            self.assertEqual((machine.tick, machine.specials[5]), (tick + 2, (content + 2) % 65536))

    def test_rest_goes_over_to_user_mode_at_epc(self):
        for epc in (0, 77, 128, 65535):
            specials = (epc, 9, 8, 64, 5000, 3, 2)
            machine = kernel_machine([word("rest")], tick=3, specials=specials)
            machine.step()
            self.assertEqual((machine.mode, machine.pc, machine.tick), ("user", epc, 4))
            self.assertEqual(machine.specials, [epc, 9, 8, 64, 5000, 4, 2])
            self.assertEqual((machine.user, machine.kernel), (list(USER), list(KERNEL)))

    def test_the_alarm_does_not_trap_in_kernel_mode(self):
        machine = kernel_machine([word("copy", 0, 1), word("copy", 2, 1)], specials=(0, 0, 0, 0, 1, 0, 0))
        machine.run(2)
        self.assertEqual((machine.mode, machine.pc, machine.kernel[2], machine.specials[1]), ("kernel", 2, 30, 0))

    def test_until_waits_for_the_tick_before_the_alarm(self):
        for tick, alarm, place in ((9, 10, 1), (8, 10, 0), (10, 10, 0), (11, 10, 0), (65535, 0, 1), (65534, 65535, 1),
                                   (65536, 1, 1), (65536, 0, 0), (0, 0, 0), (65534, 0, 0), (131071, 0, 1)):
            machine = kernel_machine([word("until")], tick=tick, specials=(0, 0, 0, 0, alarm, tick % 65536, 0))
            machine.step()
            self.assertEqual((machine.pc, machine.tick, machine.mode), (place, tick + 1, "kernel"), (tick, alarm))

    def test_the_instruction_behind_until_comes_in_the_tick_of_the_alarm(self):
        code = [word("set", 1), 50, word("puts", 1, 0, 4), word("until"), word("gets", 2, 0, 5), word("until")]
        machine = Machine(code + [0] * 10, [], [])
        machine.run(60)
        self.assertEqual((machine.kernel[2], machine.pc, machine.tick), (50, 5, 60))

    def test_until_of_the_alarm_0_waits_for_the_tick_65536(self):
        machine = Machine([word("until"), word("gets", 2, 0, 5), word("until")] + [0] * 13, [], [])
        machine.run(65535)
        self.assertEqual((machine.pc, machine.tick), (0, 65535))
        machine.step()
        self.assertEqual((machine.pc, machine.tick, machine.specials[5]), (1, 65536, 0))
        machine.step()
        self.assertEqual((machine.kernel[2], machine.tick, machine.specials[5]), (0, 65537, 1))

    def test_a_store_changes_the_instruction_itself(self):
        machine = kernel_machine([word("store", 1, 0, 0)], 20)
        machine.step()
        self.assertEqual((machine.memory[20], machine.pc, machine.mode), (30, 21, "kernel"))

    def test_a_store_changes_the_next_instruction(self):
        machine = kernel_machine([word("store", 1, 0, 1), 65535], 20, kernel=(20, word("copy", 2, 1)) + (0,) * 6)
        machine.run(2)
        self.assertEqual((machine.mode, machine.pc, machine.kernel[2]), ("kernel", 22, word("copy", 2, 1)))


class BreakingTest(unittest.TestCase):
    def assert_breaks(self, words, place=0, **given):
        machine = kernel_machine(words, place, **given)
        before = machine.state()
        machine.step()
        self.assertEqual(machine.state(), ("broken", *before[1:]), words)
        machine.step()
        machine.run(10)
        self.assertEqual(machine.state(), ("broken", *before[1:]), words)

    def test_halt_call_and_illegal_words(self):
        for content in (word("halt"), word("call"), word("call", 0, 0, 15), 1, 3243, 65535, word("jump") + 1):
            self.assert_breaks([content])

    def test_addresses_that_are_no_index_of_the_memory(self):
        for size in (16, 256, 4096):
            kernel = (size, size - 1, 65535, 0, 0, 0, 0, 0)
            for op in ("load", "store"):
                self.assert_breaks([word(op, 3, 0, 0)], size=size, kernel=kernel)
                self.assert_breaks([word(op, 3, 1, 1)], size=size, kernel=kernel)
                self.assert_breaks([word(op, 3, 2, 0)], size=size, kernel=kernel)
                machine = kernel_machine([word(op, 3, 1, 0)], size=size, kernel=kernel)
                machine.step()
                self.assertEqual((machine.mode, machine.pc), ("kernel", 1))

    def test_a_place_that_is_no_index_of_the_memory(self):
        for size, place in ((16, 16), (16, 65535), (256, 256), (256, 1000)):
            machine = resumed(("kernel", place, (USER, KERNEL, (0,) * 7), 3, 0, (word("copy"),) * size), [], [])
            before = machine.state()
            machine.step()
            self.assertEqual(machine.state(), ("broken", *before[1:]))

    def test_behind_the_last_word_of_a_small_memory(self):
        machine = kernel_machine([word("copy", 1, 0)], 15, size=16)
        machine.step()
        self.assertEqual((machine.mode, machine.pc), ("kernel", 16))
        machine.step()
        self.assertEqual((machine.mode, machine.pc, machine.tick), ("broken", 16, 1))

    def test_a_set_without_a_next_word(self):
        self.assert_breaks([word("set", 1)], 15, size=16)
        self.assert_breaks([word("set", 1)], 255, size=256)

    def test_the_largest_memory_goes_on_at_0(self):
        machine = kernel_machine([word("copy", 1, 0)], 65535, size=65536)
        machine.step()
        self.assertEqual((machine.mode, machine.pc, machine.kernel[1]), ("kernel", 0, 20))
        machine = kernel_machine([word("set", 1)], 65535, size=65536)
        machine.memory[0] = 4711
        machine.step()
        self.assertEqual((machine.mode, machine.pc, machine.kernel[1]), ("kernel", 1, 4711))
        machine = kernel_machine([word("load", 1, 6, 0), word("store", 0, 6, 0), word("load", 2, 6, 1)], size=65536)
        machine.memory[65535] = 4712
        machine.run(3)
        self.assertEqual((machine.mode, machine.kernel[1], machine.memory[65535]), ("kernel", 4712, 20))
        self.assertEqual(machine.kernel[2], word("load", 1, 6, 0))

    def test_the_inputs_of_the_tick_stay_written(self):
        inputs = [(6, 0, 1), (7, 0, 5), (7, 0, 6), (8, 0, 7)]
        machine = kernel_machine([word("halt")], tick=7, rings=[32], inputs=inputs)
        before = machine.state()
        for _ in range(3):
            machine.step()
            self.assertEqual((machine.mode, machine.tick, machine.given), ("broken", 7, 3))
            self.assertEqual(machine.memory[32:37], [2, 0, 5, 6, 0])
            self.assertEqual(machine.state()[1:3], before[1:3])

    def test_a_broken_machine_takes_no_inputs(self):
        state = ("broken", 3, (USER, KERNEL, (1, 2, 3, 4, 5, 6, 7)), 7, 0, (0,) * 64)
        machine = resumed(state, [32], [(6, 0, 1), (7, 0, 2)])
        machine.run(4)
        self.assertEqual(machine.state(), state)


class UserModeTest(unittest.TestCase):
    def assert_trapped(self, machine, cause, value, epc):
        """One step that is trapped; everything else is as before, and the tick is counted."""
        mode, pc, (user, kernel, specials), tick, given, memory = machine.state()
        self.assertEqual(mode, "user")
        machine.step()
        special = (epc, cause, value, specials[3], specials[4], (tick + 1) % 65536, tick % 65536)
        self.assertEqual(machine.state(), ("kernel", 0, (user, kernel, special), tick + 1, given, memory))

    def assert_done(self, machine, place, changed=()):
        """One step that is carried out, with the registers that it changes."""
        mode, pc, (user, kernel, specials), tick, given, memory = machine.state()
        machine.step()
        expected = list(user)
        for number, content in dict(changed).items():
            expected[number] = content
        self.assertEqual((machine.mode, machine.pc, machine.tick), ("user", place, tick + 1))
        self.assertEqual((machine.user, machine.kernel), (expected, list(kernel)))
        self.assertEqual(machine.specials, [*specials[:5], (tick + 1) % 65536, specials[6]])

    def test_ops_use_the_registers_of_the_user(self):
        rows = (
            (word("copy", 3, 0), {3: 100}), (word("add", 3, 0, 1), {3: 101}), (word("sub", 3, 1, 0), {3: 65437}),
            (word("mul", 3, 0, 5), {3: 20000}), (word("and", 3, 0, 4), {3: 4}), (word("or", 3, 0, 4), {3: 103}),
            (word("xor", 3, 0, 4), {3: 99}), (word("shl", 3, 1, 15), {3: 32768}), (word("shr", 3, 7, 15), {3: 1}),
            (word("addi", 3, 0, 15), {3: 99}),
        )
        for instruction, changed in rows:
            self.assert_done(user_machine([instruction]), 1, changed)
        self.assert_done(user_machine([word("set", 3), 12345]), 2, {3: 12345})
        self.assert_done(user_machine([word("jump", 0)]), 100)
        self.assert_done(user_machine([word("jal", 3, 2)]), 65535, {3: 1})
        self.assert_done(user_machine([word("beq", 1, 1, 0)]), 65529)
        self.assert_done(user_machine([word("bne", 0, 1, 15)]), 8)
        self.assert_done(user_machine([word("blt", 0, 1, 15)]), 1)

    def test_load_and_store_through_the_map(self):
        # The page 1 of the user is the page 5 of the memory, read only; the page 2 is the page 6, to be written.
        machine = user_machine([word("load", 3, 0, 3), word("store", 1, 4, 15)], entries=(23, 41, 50),
                               user=(16, 4711, 0, 0, 32, 0, 0, 0))
        machine.memory[83] = 999
        machine.run(2)
        self.assertEqual((machine.mode, machine.user[3], machine.memory[96 + 15]), ("user", 999, 4711))

    def test_the_last_page_of_the_user(self):
        entries = (0,) * 7 + (47,)
        for pc, place in ((112, 113), (127, 128)):
            machine = user_machine([], pc=pc, entries=entries)
            machine.memory[80 + pc % 16] = word("copy", 3, 0)
            self.assert_done(machine, place, {3: 100})

    def test_addresses_beyond_the_pages(self):
        for address in (128, 129, 255, 32768, 65535):
            self.assert_trapped(user_machine([], pc=address, entries=(23,) * 64), 2, address, address)
            for op in ("load", "store"):
                machine = user_machine([word(op, 1, 0, 0)], entries=(23,) * 64, user=(address,) + (0,) * 7)
                self.assert_trapped(machine, 2, address, 0)
        machine = user_machine([word("load", 1, 0, 15)], entries=(23,) * 64, user=(113,) + (0,) * 7)
        self.assert_trapped(machine, 2, 128, 0)

    def test_set_whose_next_word_is_not_allowed(self):
        machine = user_machine([], pc=15, entries=(23, 19))
        machine.memory[47] = word("set", 1)
        self.assert_trapped(machine, 2, 16, 15)
        machine = user_machine([], pc=127, entries=(0,) * 7 + (23,))
        machine.memory[47] = word("set", 1)
        self.assert_trapped(machine, 2, 128, 127)

    def test_set_over_two_pages(self):
        machine = user_machine([], pc=15, entries=(20, 44))
        machine.memory[47], machine.memory[80] = word("set", 1), 4321
        self.assert_done(machine, 17, {1: 4321})

    def test_each_right(self):
        for rights in range(8):
            entries = (20, 40 + rights)
            machine = user_machine([word("load", 3, 0, 0)], entries=entries, user=(16,) + (0,) * 7)
            machine.memory[80] = 5
            if rights & 1:
                self.assert_done(machine, 1, {3: 5})
            else:
                self.assert_trapped(machine, 2, 16, 0)
            machine = user_machine([word("store", 0, 0, 0)], entries=entries, user=(16,) + (0,) * 7)
            if rights & 2:
                self.assert_done(machine, 1)
                self.assertEqual(machine.memory[80], 16)
            else:
                self.assert_trapped(machine, 2, 16, 0)
            machine = user_machine([], pc=16, entries=entries)
            machine.memory[80] = word("copy", 0, 1)
            if rights & 4:
                self.assert_done(machine, 17, {0: 1})
            else:
                self.assert_trapped(machine, 2, 16, 16)

    def test_an_entry_beyond_the_memory(self):
        # The map begins at the last words of the memory.
        machine = user_machine([], pc=0, size=80)
        machine.specials[3] = 79
        machine.memory[79] = 23
        machine.memory[32] = word("load", 1, 0, 0)
        machine.user[0] = 16
        self.assert_trapped(machine, 2, 16, 0)
        machine = user_machine([], pc=20, size=80)
        machine.specials[3] = 79
        self.assert_trapped(machine, 2, 20, 20)

    def test_a_page_beyond_the_memory(self):
        # The memory has the pages 0 to 4.
        for page, fits in ((4, True), (5, False), (8191, False)):
            machine = user_machine([word("load", 1, 0, 0)], entries=(23, page * 8 + 7), size=80, user=(16,) + (9,) * 7)
            if fits:
                self.assert_done(machine, 1, {1: 23})
            else:
                self.assert_trapped(machine, 2, 16, 0)

    def test_the_index_of_an_entry_is_not_taken_modulo_65536(self):
        for base, address, place in ((65535, 0, 65535), (65528, 127, 65535)):
            machine = user_machine([], pc=address, size=65536)
            machine.specials[3] = base
            machine.memory[place] = 23
            machine.memory[32 + address % 16] = word("copy", 3, 0)
            self.assert_done(machine, address + 1, {3: 100})
        for base, address in ((65535, 16), (65535, 127), (65529, 112), (65530, 127)):
            machine = user_machine([word("copy", 3, 0)] * 16, pc=address, size=65536)
            machine.specials[3] = base
            for place in range(16):
                machine.memory[place] = 23
            self.assert_trapped(machine, 2, address, address)

    def test_the_index_of_a_page_is_not_taken_modulo_65536(self):
        # An entry tells at most the page 8191: its index is 131056.
        for page in (4096, 4098, 8191):
            machine = user_machine([word("copy", 3, 0)], entries=(page * 8 + 7,) * 8, size=65536)
            self.assert_trapped(machine, 2, 0, 0)
        machine = user_machine([], entries=(4095 * 8 + 7,), size=65536, pc=15)
        machine.memory[65535] = word("copy", 3, 0)
        self.assert_done(machine, 16, {3: 100})

    def test_a_small_memory(self):
        # In 16 words the map, the user's page and the kernel are the same page.
        memory = [7, word("load", 2, 1, 0), word("copy", 3, 2)] + [0] * 13
        machine = resumed(("user", 1, (USER, KERNEL, (0, 0, 0, 0, 9, 0, 0)), 0, 0, memory), [], [])
        machine.user[1] = 0
        machine.run(2)
        self.assertEqual((machine.mode, machine.pc, machine.user[2:4]), ("user", 3, [7, 7]))

    def test_illegal_words_and_ops_of_kernel_mode(self):
        for content in (1, 3243, 65535, *[word(op) for op in KERNEL_ONLY], word("gets", 1, 0, 6)):
            self.assert_trapped(user_machine([content]), 1, 0, 0)
            self.assert_trapped(user_machine([0] * 9 + [content], pc=9), 1, 0, 9)

    def test_halt(self):
        self.assert_trapped(user_machine([0], pc=0), 5, 0, 0)
        self.assert_trapped(user_machine([0] * 16, pc=15), 5, 0, 15)

    def test_the_place_behind_a_call(self):
        for number in range(16):
            self.assert_trapped(user_machine([word("call", 0, 0, number)]), 3, number, 1)
        machine = user_machine([], pc=127, entries=(0,) * 7 + (23,))
        machine.memory[47] = word("call", 0, 0, 4)
        self.assert_trapped(machine, 3, 4, 128)

    def test_every_word_is_carried_out_or_trapped_by_its_op(self):
        for content in range(0, 65536, 7):
            machine = user_machine([content, 0], entries=(23,), user=(0,) * 8)
            machine.step()
            parts = decode(content)
            if parts is None or parts[0] in KERNEL_ONLY:
                self.assertEqual(machine.specials[:3], [0, 1, 0])
            elif parts[0] in ("halt", "call"):
                self.assertEqual(machine.specials[1], {"halt": 5, "call": 3}[parts[0]])
            else:
                self.assertEqual(machine.mode, "user", parts)

    def test_the_alarm_comes_ahead_of_the_instruction(self):
        for content in (word("copy", 3, 0), word("call", 0, 0, 1), word("halt"), 65535, word("store", 1, 1, 0)):
            self.assert_trapped(user_machine([content], tick=77, alarm=77), 6, 0, 0)
        self.assert_trapped(user_machine([], pc=65535, tick=77, alarm=77), 6, 0, 65535)
        self.assert_trapped(user_machine([], pc=9, entries=(), tick=77, alarm=77), 6, 0, 9)

    def test_the_alarm_in_other_ticks(self):
        for tick, alarm in ((76, 77), (78, 77), (65536, 65535), (65534, 65535), (65536, 1), (1, 0)):
            self.assert_done(user_machine([word("copy", 3, 0)], tick=tick, alarm=alarm), 1, {3: 100})

    def test_the_alarm_modulo_65536(self):
        for tick, alarm in ((0, 0), (65535, 65535), (65536, 0), (65537, 1), (65536 * 3 + 9, 9)):
            self.assert_trapped(user_machine([word("copy", 3, 0)], tick=tick, alarm=alarm), 6, 0, 0)

    def test_the_tick_of_a_trap(self):
        for tick in (0, 65534, 65535, 65536, 65537, 131072):
            machine = user_machine([word("halt")], tick=tick, alarm=5)
            self.assert_trapped(machine, 5, 0, 0)
            self.assertEqual((machine.specials[6], machine.specials[5]), (tick % 65536, (tick + 1) % 65536))

    def test_a_store_that_changes_an_entry_of_the_map(self):
        # The page 1 of the user is the page of the map itself.
        words = [word("store", 1, 0, 0), word("copy", 3, 0)]
        machine = user_machine(words, entries=(23, 4 * 8 + 3), user=(16, 0) + (0,) * 6)
        machine.step()
        self.assertEqual((machine.mode, machine.pc, machine.memory[64]), ("user", 1, 0))
        self.assert_trapped(machine, 2, 1, 1)

    def test_a_store_that_changes_the_instruction_itself(self):
        machine = user_machine([word("store", 1, 0, 0)], user=(0, 65535) + (0,) * 6)
        machine.step()
        self.assertEqual((machine.mode, machine.pc, machine.memory[32]), ("user", 1, 65535))

    def test_a_trap_and_back(self):
        # The kernel counts the calls in its r1, and goes on behind them.
        memory = [word("addi", 1, 1, 1), word("rest")] + [0] * 62
        twice = [word("addi", 2, 2, 1), word("call")] * 2
        memory = at(memory, 16, twice + [word("beq", 0, 0, 7)])
        memory[48] = 15
        machine = resumed(("user", 0, (ZEROS, ZEROS, (0, 0, 0, 48, 65535, 0, 0)), 0, 0, memory), [], [])
        machine.run(9)
        self.assertEqual((machine.mode, machine.pc, machine.user[2], machine.kernel[1]), ("user", 4, 2, 2))
        self.assertEqual((machine.specials[:3], machine.specials[6]), ([4, 3, 0], 5))


class InputsTest(unittest.TestCase):
    def waiting(self, rings, inputs, size=64, tick=0):
        """A machine that waits, with 0 in all other words."""
        memory = [word("until")] + [0] * (size - 1)
        registers = (ZEROS, ZEROS, (0, 0, 0, 0, 65535, tick % 65536, 0))
        return resumed(("kernel", 0, registers, tick, 0, memory), rings, inputs)

    def test_an_input_is_written_in_its_tick(self):
        machine = self.waiting([16], [(2, 0, 777)])
        machine.run(2)
        self.assertEqual((machine.memory[16:32], machine.given), ([0] * 16, 0))
        machine.step()
        self.assertEqual((machine.memory[16:32], machine.given, machine.tick), ([1, 0, 777] + [0] * 13, 1, 3))

    def test_an_input_is_written_before_the_instruction(self):
        memory = [word("set", 3), 16, word("load", 1, 3, 0), word("load", 2, 3, 2), word("until")] + [0] * 27
        machine = Machine(memory, [16], [(1, 0, 55), (3, 0, 66)])
        machine.run(3)
        self.assertEqual(machine.kernel[1:3], [1, 55])
        machine = user_machine([word("load", 3, 0, 2)], entries=(23, 41), user=(16,) + (0,) * 7, tick=5, rings=[80],
                               inputs=[(5, 0, 99)])
        machine.step()
        self.assertEqual((machine.user[3], machine.memory[80]), (99, 1))

    def test_an_input_can_write_the_instruction(self):
        memory = [word("until")] * 16
        machine = Machine(memory, [0], [(0, 0, 5)])
        machine.step()
        # The first word was the number 24576, and 2 + 24576 % 14 is 8.
        self.assertEqual((machine.memory[0], machine.memory[8], machine.mode), (word("until") + 1, 5, "broken"))

    def test_an_input_is_written_in_the_tick_of_a_trap(self):
        for content, alarm in ((word("halt"), 65535), (word("copy"), 5)):
            machine = user_machine([content], tick=5, alarm=alarm, rings=[80], inputs=[(5, 0, 99)])
            machine.step()
            self.assertEqual((machine.mode, machine.memory[80:83]), ("kernel", [1, 0, 99]))

    def test_inputs_of_one_tick_are_written_in_their_order(self):
        machine = self.waiting([16, 32], [(1, 0, 5), (1, 1, 6), (1, 0, 7), (1, 1, 8), (1, 1, 9)])
        machine.run(2)
        self.assertEqual(machine.memory[16:22], [2, 0, 5, 7, 0, 0])
        self.assertEqual(machine.memory[32:38], [3, 0, 6, 8, 9, 0])
        self.assertEqual(machine.given, 5)

    def test_the_last_14_inputs(self):
        machine = self.waiting([16], [(k, 0, 100 + k) for k in range(16)])
        machine.run(14)
        self.assertEqual(machine.memory[16:32], [14, 0] + [100 + k for k in range(14)])
        machine.step()
        self.assertEqual(machine.memory[16:32], [15, 0, 114] + [100 + k for k in range(1, 14)])
        machine.step()
        self.assertEqual(machine.memory[16:32], [16, 0, 114, 115] + [100 + k for k in range(2, 14)])

    def test_the_14th_and_15th_input_of_one_tick(self):
        machine = self.waiting([16], [(3, 0, 100 + k) for k in range(15)])
        machine.run(4)
        self.assertEqual(machine.memory[16:32], [15, 0, 114] + [100 + k for k in range(1, 14)])

    def test_the_first_word_at_65535(self):
        machine = self.waiting([16], [(0, 0, 5), (1, 0, 6)])
        machine.memory[16] = 65535
        machine.step()
        # 65535 % 14 is 1.
        self.assertEqual(machine.memory[16:20], [0, 0, 0, 5])
        machine.step()
        self.assertEqual(machine.memory[16:20], [1, 0, 6, 5])

    def test_the_first_word_as_somebody_else_has_set_it(self):
        machine = self.waiting([16], [(0, 0, 5)])
        machine.memory[16], machine.memory[17] = 27, 4
        machine.step()
        self.assertEqual(machine.memory[16:32], [28, 4] + [0] * 13 + [5])

    def test_the_last_ring_of_the_memory(self):
        machine = self.waiting([48], [(0, 0, k) for k in range(1, 15)])
        machine.step()
        self.assertEqual(machine.memory[48:], [14, 0, *range(1, 15)])

    def test_inputs_whose_tick_is_past_are_passed_over(self):
        machine = self.waiting([16], [(0, 0, 5), (6, 0, 6), (7, 0, 7), (9, 0, 8)], tick=7)
        machine.step()
        self.assertEqual((machine.memory[16:20], machine.given), ([1, 0, 7, 0], 3))
        machine.run(2)
        self.assertEqual((machine.memory[16:20], machine.given), ([2, 0, 7, 8], 4))

    def test_inputs_beyond_the_tick_65536(self):
        machine = self.waiting([16], [(1, 0, 5), (65537, 0, 6)], tick=65537)
        machine.step()
        self.assertEqual((machine.memory[16:20], machine.given), ([1, 0, 6, 0], 2))

    def test_no_inputs_and_no_devices(self):
        machine = self.waiting([], [])
        machine.run(5)
        self.assertEqual((machine.given, machine.tick), (0, 5))


class ResumedTest(unittest.TestCase):
    def machine(self):
        """A machine that changes its mode, its memory and takes inputs."""
        kernel = [word("addi", 1, 1, 1), word("putu", 5, 1), word("gets", 2, 0, 5), word("addi", 2, 2, 5),
                  word("puts", 2, 0, 4), word("set", 3), 64, word("puts", 3, 0, 3), word("until"), word("rest")]
        user = [word("addi", 1, 1, 1), word("load", 2, 3, 0), word("call", 0, 0, 1), word("halt")]
        memory = at(at(at([0] * 96, 0, kernel), 32, user), 64, [23, 41])
        return Machine(memory, [80], [(k * 3, 0, k) for k in range(40)])

    def test_a_resumed_machine_goes_on_as_the_machine_itself(self):
        machine = self.machine()
        for _ in range(70):
            other = resumed(machine.state(), machine.rings, machine.inputs)
            self.assertEqual(other.state(), machine.state())
            machine.step()
            other.step()
            self.assertEqual(other.state(), machine.state())
        whole = self.machine()
        whole.run(70)
        self.assertEqual(whole.state(), machine.state())

    def test_the_state_that_is_passed_stays(self):
        state = self.machine().state()
        rings, inputs = [80], [(0, 0, 9), (1, 0, 8)]
        machine = resumed(state, rings, inputs)
        machine.run(12)
        self.assertEqual(state, self.machine().state())
        self.assertEqual((rings, inputs), ([80], [(0, 0, 9), (1, 0, 8)]))
        rings[0] = 0
        inputs.clear()
        self.assertEqual((machine.rings, machine.inputs), ([80], [(0, 0, 9), (1, 0, 8)]))

    def test_all_parts_of_a_state(self):
        state = ("user", 7, (USER, KERNEL, (1, 2, 3, 4, 5, 6, 7)), 65542, 1, tuple(range(32)))
        machine = resumed(state, [16], [(1, 0, 2), (65542, 0, 3)])
        self.assertEqual(machine.state(), state)
        self.assertEqual((machine.mode, machine.pc, machine.tick, machine.given), ("user", 7, 65542, 1))
        for found, expected in ((machine.user, USER), (machine.kernel, KERNEL), (machine.memory, range(32)),
                                (machine.specials, (1, 2, 3, 4, 5, 6, 7))):
            self.assertIs(type(found), list)
            self.assertEqual(found, list(expected))


if __name__ == "__main__":
    unittest.main()
