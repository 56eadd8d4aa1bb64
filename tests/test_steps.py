"""merestone.steps: the effects of point 02.1, and point 02.2."""

import unittest

from merestone.codes import KERNEL_ONLY, OPS, decode, encode
from merestone.errors import Trap
from merestone.steps import View, carry_out, user_step

BEFORE = (100, 1, 65535, 32768, 7, 200, 32767, 65535)


class Memory:
    """A view of a dict of words, that notes what it is asked for; each right has addresses that lack it."""

    def __init__(self, words, closed=(), unread=(), unwritten=()):
        self.words = dict(words)
        self.closed = closed
        self.unread = unread
        self.unwritten = unwritten
        self.asked = []

    def fetch(self, address):
        self.asked.append(("fetch", address))
        if address in self.closed:
            raise Trap(2, address)
        return self.words.get(address, 0)

    def load(self, address):
        self.asked.append(("load", address))
        if address in self.unread:
            raise Trap(2, address)
        return self.words.get(address, 0)

    def store(self, address, word):
        self.asked.append(("store", address, word))
        if address in self.unwritten:
            raise Trap(2, address)
        self.words[address] = word


class StepTest(unittest.TestCase):
    def step(self, op, a, b, c, pc=40, words=(), **rights):
        """Carries out one instruction at a place; returns the next place, the registers and the view."""
        view = Memory({pc: encode(op, a, b, c), **dict(words)}, **rights)
        registers = list(BEFORE)
        return user_step(registers, pc, view), registers, view

    def assert_sets(self, op, a, b, c, word):
        """An instruction sets one register, and nothing else; the place behind it comes next."""
        place, registers, view = self.step(op, a, b, c)
        expected = list(BEFORE)
        expected[a] = word
        self.assertEqual((place, registers), (41, expected), (op, a, b, c))
        self.assertEqual(view.asked, [("fetch", 40)])
        self.assertEqual(len(view.words), 1)

    def assert_goes(self, op, a, b, c, place, pc=40):
        """An instruction goes to a place, and changes no register."""
        found, registers, view = self.step(op, a, b, c, pc)
        self.assertEqual((found, registers), (place, list(BEFORE)), (op, a, b, c, pc))
        self.assertEqual(view.asked, [("fetch", pc)])

    def assert_trapped(self, words, pc, cause, value, asked, **rights):
        """A step is trapped, and registers and memory are as they were."""
        view = Memory(words, **rights)
        registers = list(BEFORE)
        with self.assertRaises(Trap) as caught:
            user_step(registers, pc, view)
        self.assertEqual((caught.exception.cause, caught.exception.value), (cause, value))
        self.assertEqual(registers, list(BEFORE))
        self.assertEqual(view.words, dict(words))
        self.assertEqual(view.asked, asked)


class EffectsTest(StepTest):
    def test_set(self):
        for word in (0, 1, 32767, 32768, 65535):
            place, registers, view = self.step("set", 3, 0, 0, words={41: word})
            self.assertEqual((place, registers[3]), (42, word))
            self.assertEqual(registers[:3] + registers[4:], list(BEFORE[:3] + BEFORE[4:]))
            self.assertEqual(view.asked, [("fetch", 40), ("fetch", 41)])

    def test_set_at_the_last_places(self):
        self.assertEqual(self.step("set", 0, 0, 0, pc=65535, words={0: 77})[:2], (1, [77, *BEFORE[1:]]))
        self.assertEqual(self.step("set", 7, 0, 0, pc=65534, words={65535: 78})[:2], (0, [*BEFORE[:7], 78]))

    def test_copy(self):
        self.assert_sets("copy", 0, 7, 0, 65535)
        self.assert_sets("copy", 7, 0, 0, 100)
        self.assert_sets("copy", 4, 4, 0, 7)

    def test_add(self):
        self.assert_sets("add", 4, 0, 1, 101)
        self.assert_sets("add", 0, 2, 1, 0)
        self.assert_sets("add", 2, 2, 7, 65534)
        self.assert_sets("add", 3, 3, 3, 0)

    def test_sub(self):
        self.assert_sets("sub", 4, 0, 1, 99)
        self.assert_sets("sub", 4, 1, 0, 65437)
        self.assert_sets("sub", 5, 6, 3, 65535)
        self.assert_sets("sub", 0, 0, 0, 0)

    def test_mul(self):
        self.assert_sets("mul", 1, 0, 5, 20000)
        self.assert_sets("mul", 1, 2, 7, 1)
        self.assert_sets("mul", 1, 3, 3, 0)
        self.assert_sets("mul", 6, 5, 3, 0)
        self.assert_sets("mul", 6, 4, 6, 32761)

    def test_and_or_xor(self):
        self.assert_sets("and", 1, 0, 4, 4)
        self.assert_sets("or", 1, 0, 4, 103)
        self.assert_sets("xor", 1, 0, 4, 99)
        self.assert_sets("and", 0, 3, 6, 0)
        self.assert_sets("or", 0, 3, 6, 65535)
        self.assert_sets("xor", 0, 2, 6, 32768)

    def test_shl(self):
        # The field c is the count itself, not a register.
        self.assert_sets("shl", 5, 7, 0, 65535)
        self.assert_sets("shl", 5, 1, 15, 32768)
        self.assert_sets("shl", 5, 7, 15, 32768)
        self.assert_sets("shl", 5, 3, 1, 0)
        self.assert_sets("shl", 0, 0, 4, 1600)

    def test_shr(self):
        self.assert_sets("shr", 5, 7, 0, 65535)
        self.assert_sets("shr", 5, 3, 15, 1)
        self.assert_sets("shr", 5, 6, 15, 0)
        self.assert_sets("shr", 5, 7, 1, 32767)
        self.assert_sets("shr", 0, 0, 4, 6)

    def test_addi(self):
        for c, word in ((0, 100), (1, 101), (7, 107), (8, 92), (9, 93), (15, 99)):
            self.assert_sets("addi", 2, 0, c, word)
        self.assert_sets("addi", 1, 1, 8, 65529)
        self.assert_sets("addi", 1, 1, 15, 0)
        self.assert_sets("addi", 2, 2, 7, 6)
        self.assert_sets("addi", 6, 2, 1, 0)

    def test_load(self):
        for c, address in ((0, 100), (1, 101), (8, 108), (15, 115)):
            place, registers, view = self.step("load", 3, 0, c, words={address: 4321})
            self.assertEqual((place, registers), (41, [*BEFORE[:3], 4321, *BEFORE[4:]]))
            self.assertEqual(view.asked, [("fetch", 40), ("load", address)])

    def test_load_of_a_sum_modulo_65536(self):
        for c, address in ((0, 65535), (1, 0), (15, 14)):
            place, registers, view = self.step("load", 2, 2, c, words={address: 4321})
            self.assertEqual((place, registers[2]), (41, 4321))
            self.assertEqual(view.asked, [("fetch", 40), ("load", address)])

    def test_store(self):
        for c, address in ((0, 100), (1, 101), (8, 108), (15, 115)):
            place, registers, view = self.step("store", 3, 0, c)
            self.assertEqual((place, registers), (41, list(BEFORE)))
            self.assertEqual(view.asked, [("fetch", 40), ("store", address, 32768)])
            self.assertEqual(view.words, {40: encode("store", 3, 0, c), address: 32768})

    def test_store_at_a_sum_modulo_65536(self):
        for c, address in ((0, 65535), (1, 0), (15, 14)):
            place, registers, view = self.step("store", 2, 2, c)
            self.assertEqual((place, registers), (41, list(BEFORE)))
            self.assertEqual(view.asked, [("fetch", 40), ("store", address, 65535)])

    def test_jump(self):
        for a, place in ((0, 100), (1, 1), (2, 65535), (3, 32768)):
            self.assert_goes("jump", a, 0, 0, place)

    def test_jal(self):
        place, registers, view = self.step("jal", 1, 0, 0)
        self.assertEqual((place, registers), (100, [100, 41, *BEFORE[2:]]))
        self.assertEqual(view.asked, [("fetch", 40)])

    def test_jal_with_one_register(self):
        for a, place in ((0, 100), (7, 65535)):
            found, registers, _ = self.step("jal", a, a, 0)
            self.assertEqual((found, registers[a]), (place, 41))

    def test_jal_at_the_last_place(self):
        self.assertEqual(self.step("jal", 1, 0, 0, pc=65535)[:2], (100, [100, 0, *BEFORE[2:]]))

    def test_branches_that_are_taken(self):
        for op, a, b in (("beq", 2, 7), ("beq", 4, 4), ("bne", 0, 1), ("blt", 1, 0), ("blt", 6, 3), ("blt", 4, 2)):
            for c, place in ((0, 33), (7, 40), (8, 41), (9, 42), (15, 48)):
                self.assert_goes(op, a, b, c, place)

    def test_branches_that_are_not_taken(self):
        for op, a, b in (("beq", 0, 1), ("beq", 3, 6), ("bne", 2, 7), ("bne", 4, 4), ("blt", 0, 1), ("blt", 3, 6),
                         ("blt", 2, 4), ("blt", 2, 7), ("blt", 5, 5)):
            for c in (0, 7, 8, 9, 15):
                self.assert_goes(op, a, b, c, 41)

    def test_branches_over_the_last_place(self):
        self.assert_goes("beq", 0, 0, 15, 7, pc=65535)
        self.assert_goes("beq", 0, 0, 8, 0, pc=65535)
        self.assert_goes("beq", 0, 0, 7, 65535, pc=65535)
        self.assert_goes("beq", 0, 0, 15, 4, pc=65532)
        self.assert_goes("beq", 0, 0, 0, 65529, pc=0)
        self.assert_goes("beq", 0, 0, 0, 65535, pc=6)
        self.assert_goes("bne", 0, 0, 15, 0, pc=65535)
        self.assert_goes("blt", 1, 0, 15, 2, pc=65530)

    def test_the_place_behind_the_last_one_is_0(self):
        for op in ("copy", "add", "sub", "mul", "and", "or", "xor", "shl", "shr", "addi", "load", "store"):
            self.assertEqual(self.step(op, 1, 0, 0, pc=65535)[0], 0, op)

    def test_an_instruction_can_store_over_itself(self):
        view = Memory({100: encode("store", 4, 0, 0)})
        registers = list(BEFORE)
        self.assertEqual(user_step(registers, 100, view), 101)
        self.assertEqual(view.words, {100: 7})


class TrapsTest(StepTest):
    def test_a_place_that_cannot_be_fetched(self):
        for pc in (0, 40, 127, 128, 32768, 65535):
            for word in (encode("copy", 1, 2, 0), encode("halt", 0, 0, 0), 65535):
                self.assert_trapped({pc: word}, pc, 2, pc, [("fetch", pc)], closed=(pc,))

    def test_the_right_to_fetch_is_the_one_that_counts(self):
        place, registers, _ = self.step("copy", 1, 0, 0, unread=(40,), unwritten=(40,))
        self.assertEqual((place, registers[1]), (41, 100))
        place, registers, _ = self.step("load", 1, 0, 0, words={100: 5}, closed=(100,), unwritten=(100,))
        self.assertEqual((place, registers[1]), (41, 5))
        place, _, view = self.step("store", 1, 0, 0, closed=(100,), unread=(100,))
        self.assertEqual((place, view.words[100]), (41, 1))

    def test_illegal_words(self):
        for word in (1, 1023, 1025, 1040, 2049, 3243, 14337, 15361, 19457 + 16, 26624, 65535):
            self.assertIsNone(decode(word))
            self.assert_trapped({40: word}, 40, 1, 0, [("fetch", 40)])

    def test_ops_of_kernel_mode(self):
        for op in KERNEL_ONLY:
            for a in (0, 7):
                if op not in ("until", "rest") or a == 0:
                    self.assert_trapped({40: encode(op, a, 0, 0)}, 40, 1, 0, [("fetch", 40)])
        for word in (encode("gets", 7, 0, 6), encode("puts", 7, 0, 4), encode("getu", 7, 7, 0), encode("putu", 7, 7, 0)):
            self.assert_trapped({65535: word}, 65535, 1, 0, [("fetch", 65535)])

    def test_set_whose_next_word_cannot_be_fetched(self):
        for pc, behind in ((40, 41), (127, 128), (65534, 65535), (65535, 0)):
            self.assert_trapped(
                {pc: encode("set", 3, 0, 0), behind: 9}, pc, 2, behind,
                [("fetch", pc), ("fetch", behind)], closed=(behind,), unread=(), unwritten=(),
            )

    def test_halt(self):
        self.assert_trapped({40: 0}, 40, 5, 0, [("fetch", 40)])
        self.assert_trapped({65535: 0}, 65535, 5, 0, [("fetch", 65535)])

    def test_call(self):
        for number in range(16):
            self.assert_trapped({40: encode("call", 0, 0, number)}, 40, 3, number, [("fetch", 40)])

    def test_load_that_is_not_allowed(self):
        for b, c, address in ((0, 0, 100), (0, 15, 115), (2, 0, 65535), (2, 15, 14)):
            self.assert_trapped(
                {40: encode("load", 1, b, c), address: 9}, 40, 2, address,
                [("fetch", 40), ("load", address)], unread=(address,),
            )

    def test_load_into_its_own_address_that_is_not_allowed(self):
        self.assert_trapped({40: encode("load", 0, 0, 0)}, 40, 2, 100, [("fetch", 40), ("load", 100)], unread=(100,))

    def test_store_that_is_not_allowed(self):
        for b, c, address in ((0, 0, 100), (0, 15, 115), (2, 0, 65535), (2, 15, 14)):
            self.assert_trapped(
                {40: encode("store", 1, b, c), address: 9}, 40, 2, address,
                [("fetch", 40), ("store", address, 1)], unwritten=(address,),
            )

    def test_the_trap_of_the_view_is_told_as_it_is(self):
        class Other(View):
            def fetch(self, address):
                raise Trap(9, 1234)

        with self.assertRaises(Trap) as caught:
            user_step(list(BEFORE), 40, Other())
        self.assertEqual((caught.exception.cause, caught.exception.value), (9, 1234))


class CarryOutTest(StepTest):
    def test_the_instruction_is_not_fetched(self):
        view = Memory({}, closed=tuple(range(200)))
        registers = list(BEFORE)
        self.assertEqual(carry_out(("add", 1, 0, 4), registers, 40, view), 41)
        self.assertEqual(registers, [100, 107, *BEFORE[2:]])
        self.assertEqual(view.asked, [])

    def test_set_fetches_the_next_word_alone(self):
        view = Memory({41: 5})
        registers = list(BEFORE)
        self.assertEqual(carry_out(("set", 1, 0, 0), registers, 40, view), 42)
        self.assertEqual(registers, [100, 5, *BEFORE[2:]])
        self.assertEqual(view.asked, [("fetch", 41)])

    def test_traps(self):
        rows = (
            (("halt", 0, 0, 0), 5, 0), (("call", 0, 0, 15), 3, 15), (("call", 0, 0, 0), 3, 0),
            (("set", 1, 0, 0), 2, 41), (("load", 1, 0, 3), 2, 103), (("store", 1, 0, 4), 2, 104),
        )
        for parts, cause, value in rows:
            registers = list(BEFORE)
            view = Memory({}, closed=(41,), unread=(103,), unwritten=(104,))
            with self.assertRaises(Trap) as caught:
                carry_out(parts, registers, 40, view)
            self.assertEqual((caught.exception.cause, caught.exception.value), (cause, value))
            self.assertEqual((registers, view.words), (list(BEFORE), {}))

    def test_the_same_as_a_step_for_every_legal_word_of_user_mode(self):
        for word in range(len(OPS) * 1024):
            parts = decode(word)
            if parts is None or parts[0] in KERNEL_ONLY:
                continue
            found = []
            for how in (lambda *given: user_step(*given), lambda *given: carry_out(parts, *given)):
                registers, view = list(BEFORE), Memory({40: word, 41: 33}, unread=(107,), unwritten=(106,))
                try:
                    place = how(registers, 40, view)
                except Trap as trap:
                    place = (trap.cause, trap.value)
                found.append((place, registers, view.words))
            self.assertEqual(found[0], found[1], parts)


class ViewTest(unittest.TestCase):
    def test_it_allows_nothing(self):
        view = View()
        for address in (0, 65535):
            for ask in (view.fetch, view.load, lambda place: view.store(place, 1)):
                with self.assertRaises(Trap) as caught:
                    ask(address)
                self.assertEqual((caught.exception.cause, caught.exception.value), (2, address))

    def test_no_step_gets_beyond_it(self):
        registers = list(BEFORE)
        with self.assertRaises(Trap):
            user_step(registers, 0, View())
        self.assertEqual(registers, list(BEFORE))


if __name__ == "__main__":
    unittest.main()
