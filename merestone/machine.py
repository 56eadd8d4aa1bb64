"""The machine: memory, registers and modes, and what it does in a tick."""

from merestone.codes import KERNEL_ONLY, decode
from merestone.devices import write_input
from merestone.errors import Trap
from merestone.steps import ADDRESS, CALLED, View, carry_out, user_step
from merestone.words import add, wrap

PAGE = 16
USER_WORDS = 128

READ = 1
WRITE = 2
EXECUTE = 4
# How many sets of rights there are: an entry of the map is a page times this, plus its rights.
RIGHTS = 8

KERNEL = "kernel"
USER = "user"
BROKEN = "broken"

# The numbers of the special registers.
EPC = 0
CAUSE = 1
VALUE = 2
MAP = 3
ALARM = 4
TICKS = 5
TRAPPED = 6

# The cause of a trap by the alarm.
ALARMED = 6


class KernelView(View):
    """What kernel mode sees of a machine: its memory as it is."""

    def __init__(self, machine):
        self.machine = machine

    def fetch(self, address):
        """The word of an instruction at an index of the memory."""
        return self.load(address)

    def load(self, address):
        """The content of an index of the memory."""
        if address >= len(self.machine.memory):
            raise Trap(ADDRESS, address)
        return self.machine.memory[address]

    def store(self, address, word):
        """Makes a word the content of an index of the memory."""
        if address >= len(self.machine.memory):
            raise Trap(ADDRESS, address)
        self.machine.memory[address] = word


class UserView(View):
    """What user mode sees of a machine: eight pages, by the map."""

    def __init__(self, machine):
        self.machine = machine

    def index_of(self, address, right):
        """The index of the memory that an address stands for, if the map gives the right."""
        memory = self.machine.memory
        place = self.machine.specials[MAP] + address // PAGE
        if address >= USER_WORDS or place >= len(memory):
            raise Trap(ADDRESS, address)
        entry = memory[place]
        index = entry // RIGHTS * PAGE + address % PAGE
        if index >= len(memory) or (entry & right) == 0:
            raise Trap(ADDRESS, address)
        return index

    def fetch(self, address):
        """The word of an instruction at an address."""
        return self.machine.memory[self.index_of(address, EXECUTE)]

    def load(self, address):
        """The content of an address."""
        return self.machine.memory[self.index_of(address, READ)]

    def store(self, address, word):
        """Makes a word the content of an address."""
        self.machine.memory[self.index_of(address, WRITE)] = word


class Machine:
    """A machine at its first tick."""

    def __init__(self, memory, rings, inputs):
        self.memory = list(memory)
        self.rings = list(rings)
        self.inputs = list(inputs)
        self.mode = KERNEL
        self.pc = 0
        self.user = [0] * 8
        self.kernel = [0] * 8
        self.specials = [0] * 7
        self.tick = 0
        self.given = 0
        self.kernel_view = KernelView(self)
        self.user_view = UserView(self)

    def take_inputs(self):
        """Writes the inputs of this tick, and passes over those whose tick is past."""
        while self.given < len(self.inputs) and self.inputs[self.given][0] <= self.tick:
            tick, device, word = self.inputs[self.given]
            if tick == self.tick:
                write_input(self.memory, self.rings[device], word)
            self.given += 1

    def enter_kernel(self, epc, cause, value):
        """A trap: goes over to kernel mode at the place 0."""
        self.specials[EPC] = epc
        self.specials[CAUSE] = cause
        self.specials[VALUE] = value
        self.specials[TRAPPED] = wrap(self.tick)
        self.mode = KERNEL
        self.pc = 0

    def user_tick(self):
        """The alarm, or an instruction in user mode."""
        if wrap(self.tick) == self.specials[ALARM]:
            self.enter_kernel(self.pc, ALARMED, 0)
            return
        try:
            self.pc = user_step(self.user, self.pc, self.user_view)
        except Trap as caught:
            epc = self.pc
            if caught.cause == CALLED:
                epc = add(epc, 1)
            self.enter_kernel(epc, caught.cause, caught.value)

    def special(self, number):
        """The content of a special register."""
        if number == TICKS:
            return wrap(self.tick)
        return self.specials[number]

    def kernel_only(self, parts):
        """Carries out an instruction of kernel mode alone; returns the place that comes next."""
        op, a, b, c = parts
        if op == "rest":
            self.mode = USER
            return self.specials[EPC]
        if op == "until" and wrap(self.tick + 1) != self.specials[ALARM]:
            return self.pc
        if op == "getu":
            self.kernel[a] = self.user[b]
        if op == "putu":
            self.user[a] = self.kernel[b]
        if op == "gets":
            self.kernel[a] = self.special(c)
        if op == "puts":
            self.specials[c] = self.kernel[a]
        return add(self.pc, 1)

    def kernel_tick(self):
        """An instruction in kernel mode, which may break the machine."""
        try:
            parts = decode(self.kernel_view.fetch(self.pc))
            if parts is None:
                self.mode = BROKEN
            elif parts[0] in KERNEL_ONLY:
                self.pc = self.kernel_only(parts)
            else:
                self.pc = carry_out(parts, self.kernel, self.pc, self.kernel_view)
        except Trap:
            self.mode = BROKEN

    def step(self):
        """Carries out one tick."""
        if self.mode == BROKEN:
            return
        self.take_inputs()
        if self.mode == USER:
            self.user_tick()
        else:
            self.kernel_tick()
        if self.mode != BROKEN:
            self.tick += 1
            self.specials[TICKS] = wrap(self.tick)

    def run(self, count):
        """Carries out so many ticks."""
        for _ in range(count):
            self.step()

    def state(self):
        """All that changes in the machine, in tuples."""
        registers = (tuple(self.user), tuple(self.kernel), tuple(self.specials))
        return (self.mode, self.pc, registers, self.tick, self.given, tuple(self.memory))


def resumed(state, rings, inputs):
    """A machine that is in a state."""
    mode, pc, registers, tick, given, memory = state
    user, kernel, specials = registers
    machine = Machine(memory, rings, inputs)
    machine.mode = mode
    machine.pc = pc
    machine.user = list(user)
    machine.kernel = list(kernel)
    machine.specials = list(specials)
    machine.tick = tick
    machine.given = given
    return machine
