"""The machine: what it does, step by step, with the numbers of an image."""

from weldmill.images import fetched
from weldmill.names import MOST_STEPS
from weldmill.runs import PLAIN_DEEDS, Steps, bounded

GREATEST_NUMBER = 10 ** 30


def run_image(image, *, most=MOST_STEPS):
    """What at most so many steps tell, how many were done, and how the machine stands behind them."""
    machine = Machine(image)
    machine.goes(most)
    return machine.tells, machine.steps, machine.how


def state_of_image(image, *, most=MOST_STEPS):
    """The address at hand, the registers, the pile and the cells behind at most so many steps."""
    machine = Machine(image)
    machine.goes(most)
    return machine.at, machine.registers, machine.pile, machine.cells


class Machine(Steps):
    """A machine with an image, as far as it has come."""

    def __init__(self, image):
        super().__init__(image.start)
        self.cells = list(image.cells)

    def has(self, address):
        """Whether there is a cell at the address; the one at address 0 is nobody's."""
        return 1 <= address < len(self.cells)

    def does_item(self):
        """Does the instruction at hand, whole or, where it faults, not at all; "on", "halt" or the fault."""
        if not self.has(self.at):
            return "end"
        row = fetched(self.cells, self.at)
        if row is None:
            return "odd"
        (word, *parts), size = row
        self.behind = self.at + size
        deed = DEEDS[word] if word in DEEDS else PLAIN_DEEDS[word]
        return deed(self, *parts)


def does_add(machine, r, s):
    """Register r gets the sum of what both hold."""
    total = machine.registers[r] + machine.registers[s]
    return machine.gets(r, bounded(total, GREATEST_NUMBER))


def does_less(machine, r, s):
    """Register r gets what it holds less what s holds."""
    rest = machine.registers[r] - machine.registers[s]
    return machine.gets(r, bounded(rest, GREATEST_NUMBER))


def does_times(machine, r, s):
    """Register r gets the product of what both hold."""
    product = machine.registers[r] * machine.registers[s]
    return machine.gets(r, bounded(product, GREATEST_NUMBER))


def does_load(machine, r, s, k):
    """Register r gets what the cell holds at the address in s, k more."""
    address = machine.registers[s] + k
    if not machine.has(address):
        return "reach"
    return machine.gets(r, machine.cells[address])


def does_store(machine, r, s, k):
    """The cell at the address in s, k more, gets what r holds."""
    address = machine.registers[s] + k
    if not machine.has(address):
        return "reach"
    machine.cells[address] = machine.registers[r]
    return machine.goes_on()


def does_place(machine, r, address):
    """Register r gets the address."""
    return machine.gets(r, address)


def does_call(machine, distance):
    """Goes on at that distance and keeps the next instruction's address."""
    return machine.enters(machine.at + distance)


def does_enter(machine, r):
    """Goes on at the address that r holds and keeps the next instruction's."""
    return machine.enters(machine.registers[r])


def does_jump(machine, distance):
    """Goes on at that distance."""
    return machine.goes_to(machine.at + distance)


def does_when(machine, r, distance):
    """Goes on at that distance where r isn't nought."""
    return machine.goes_on() if machine.registers[r] == 0 else does_jump(machine, distance)


DEEDS = {
    "add": does_add,
    "less": does_less,
    "times": does_times,
    "load": does_load,
    "store": does_store,
    "place": does_place,
    "call": does_call,
    "enter": does_enter,
    "jump": does_jump,
    "when": does_when,
}
