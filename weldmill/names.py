"""A run by names: what pieces do step by step, without addresses."""

from weldmill.choice import stands_for
from weldmill.places import data_holders, is_in_code, place_of

MOST_STEPS = 3000
REGISTERS = 8
MOST_KEPT = 200
GREATEST_NUMBER = 10 ** 18
GREATEST_OFFSET = 10 ** 9


def run_by_names(pieces, choice, start, *, most=MOST_STEPS):
    """What at most so many steps tell, how many were done, and how the run stands behind them."""
    run = Run(pieces, choice, start)
    run.goes(most)
    return run.tells, run.steps, run.how


def state_by_names(pieces, choice, start, *, most=MOST_STEPS):
    """The place at hand, the registers, the pile and the memory behind at most so many steps."""
    run = Run(pieces, choice, start)
    run.goes(most)
    memory = {holder: run.cells_of(holder) for holder in data_holders(pieces, choice)}
    return run.at, run.registers, run.pile, memory


def is_number(value):
    """Whether the value is a whole number, no place."""
    return isinstance(value, int)


def bounded(number):
    """The number; "great" where it is beyond the bounds."""
    return number if abs(number) <= GREATEST_NUMBER else "great"


def moved(place, by):
    """The place so much ahead; "great" where its offset is beyond the bounds."""
    _, holder, offset = place
    return ("at", holder, offset + by) if abs(offset + by) <= GREATEST_OFFSET else "great"


class Run:
    """A run by names, as far as it has come; a fault is told by its word, a text, in the place of a value."""

    def __init__(self, pieces, choice, start):
        self.pieces = pieces
        self.choice = choice
        self.at = place_of(choice[start], start, 0)
        self.registers = [0] * REGISTERS
        self.pile = []
        # The cells of those holders alone that were asked for.
        self.memory = {}
        self.tells = []
        self.steps = 0
        self.how = "on"

    def goes(self, most):
        """Does at most so many steps."""
        while self.how == "on" and self.steps < most:
            self.how = self.does_item()
            if self.how in ("on", "halt"):
                self.steps += 1

    def does_item(self):
        """Does the item at hand, whole or, where it faults, not at all; "on", "halt" or the fault."""
        _, (piece, section), offset = self.at
        items = self.pieces[piece][1][section][3]
        if offset >= len(items):
            return "end"
        word, *parts = items[offset]
        deed = DEEDS[word]
        return deed(self, *parts)

    def behind(self):
        """The place of the next item."""
        _, holder, offset = self.at
        return ("at", holder, offset + 1)

    def goes_to(self, place):
        """Goes on at the place."""
        self.at = place
        return "on"

    def goes_on(self):
        """Goes on at the next item."""
        return self.goes_to(self.behind())

    def gets(self, r, answer):
        """Gives the register a value and goes on to the next item; a fault is handed on."""
        if isinstance(answer, str):
            return answer
        self.registers[r] = answer
        return self.goes_on()

    def enters(self, place):
        """Keeps the place of the next item and goes on at the place."""
        if len(self.pile) == MOST_KEPT:
            return "deep"
        self.pile.append(self.behind())
        return self.goes_to(place)

    def meaning(self, name, more):
        """What the name stands for in the piece at hand, so much more in its offset."""
        piece, _ = self.at[1]
        return place_of(stands_for(self.pieces, self.choice, piece, name), name, more)

    def is_data(self, value):
        """Whether the value is a place in data."""
        return not is_number(value) and not is_in_code(self.pieces, value[1])

    def cells_of(self, holder):
        """The values of the holder's cells."""
        if holder not in self.memory:
            self.memory[holder] = first_cells(self.pieces, self.choice, holder)
        return self.memory[holder]

    def fault_at(self, value, more):
        """The fault of a load or store at the value's place, so much more; None where it goes."""
        if not self.is_data(value):
            return "value"
        _, holder, offset = value
        if not 0 <= offset + more < len(self.cells_of(holder)):
            return "reach"
        return None


def first_cells(pieces, choice, holder):
    """The values of the holder's cells ahead of all steps."""
    if holder[0] == "common":
        return [0] * choice[holder[1]][1]
    piece, section = holder
    cells = []
    for item in pieces[piece][1][section][3]:
        if item[0] == "room":
            cells.extend([0] * item[1])
        elif item[0] == "cell":
            cells.append(item[1])
        else:
            _, name, more = item
            cells.append(place_of(stands_for(pieces, choice, piece, name), name, more))
    return cells


def sum_of(run, one, other):
    """The sum of two values, or the fault."""
    if is_number(one) and is_number(other):
        return bounded(one + other)
    place, by = (other, one) if is_number(one) else (one, other)
    if not run.is_data(place) or not is_number(by):
        return "value"
    return moved(place, by)


def rest_of(run, one, other):
    """One value less the other, or the fault."""
    if is_number(one) and is_number(other):
        return bounded(one - other)
    if not run.is_data(one):
        return "value"
    if is_number(other):
        return moved(one, -other)
    return one[2] - other[2] if one[1] == other[1] else "value"


def product_of(one, other):
    """The product of two values, or the fault."""
    if not is_number(one) or not is_number(other):
        return "value"
    return bounded(one * other)


def does_set(run, r, n):
    """Register r gets the number."""
    return run.gets(r, n)


def does_copy(run, r, s):
    """Register r gets what s holds."""
    return run.gets(r, run.registers[s])


def does_add(run, r, s):
    """Register r gets the sum of what both hold."""
    return run.gets(r, sum_of(run, run.registers[r], run.registers[s]))


def does_less(run, r, s):
    """Register r gets what it holds less what s holds."""
    return run.gets(r, rest_of(run, run.registers[r], run.registers[s]))


def does_times(run, r, s):
    """Register r gets the product of what both hold."""
    return run.gets(r, product_of(run.registers[r], run.registers[s]))


def does_place(run, r, name, k):
    """Register r gets what the name stands for, k more."""
    return run.gets(r, run.meaning(name, k))


def does_load(run, r, s, k):
    """Register r gets what the cell holds at the place in s, k more."""
    place = run.registers[s]
    fault = run.fault_at(place, k)
    if fault is not None:
        return fault
    _, holder, offset = place
    return run.gets(r, run.cells_of(holder)[offset + k])


def does_store(run, r, s, k):
    """The cell at the place in s, k more, gets what r holds."""
    place = run.registers[s]
    fault = run.fault_at(place, k)
    if fault is not None:
        return fault
    _, holder, offset = place
    cells = run.cells_of(holder)
    cells[offset + k] = run.registers[r]
    return run.goes_on()


def does_call(run, name):
    """Goes on at the name's place and keeps the next item's."""
    place = run.meaning(name, 0)
    return "none" if is_number(place) else run.enters(place)


def does_enter(run, r):
    """Goes on at the place in code that r holds and keeps the next item's."""
    place = run.registers[r]
    if is_number(place) or run.is_data(place):
        return "value"
    return run.enters(place)


def does_jump(run, name):
    """Goes on at the name's place."""
    place = run.meaning(name, 0)
    return "none" if is_number(place) else run.goes_to(place)


def does_when(run, r, name):
    """Goes on at the name's place where r isn't nought."""
    value = run.registers[r]
    if not is_number(value):
        return "value"
    return run.goes_on() if value == 0 else does_jump(run, name)


def does_back(run):
    """Goes on at the place kept last."""
    return run.goes_to(run.pile.pop()) if run.pile else "empty"


def does_tell(run, r):
    """Tells what r holds."""
    run.tells.append(run.registers[r])
    return run.goes_on()


def does_halt(run):
    """Stays where it is."""
    return "halt"


DEEDS = {
    "set": does_set,
    "copy": does_copy,
    "add": does_add,
    "less": does_less,
    "times": does_times,
    "load": does_load,
    "store": does_store,
    "place": does_place,
    "call": does_call,
    "jump": does_jump,
    "when": does_when,
    "enter": does_enter,
    "back": does_back,
    "tell": does_tell,
    "halt": does_halt,
}
