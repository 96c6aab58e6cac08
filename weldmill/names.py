"""A run by names: what pieces do step by step, without addresses."""

from weldmill.choice import stands_for, value_named
from weldmill.places import data_holders, is_in_code, is_number, place_of, section_of
from weldmill.runs import PLAIN_DEEDS, Steps, bounded

MOST_STEPS = 3000
GREATEST_NUMBER = 10 ** 18
GREATEST_OFFSET = 10 ** 9


def run_by_names(pieces, choice, start, *, most=MOST_STEPS):
    """What at most so many steps tell, how many were done, and how the run stands behind them."""
    run = Run(pieces, choice, start)
    run.goes(most)
    return run.tells, run.steps, run.how


def state_by_names(pieces, choice, start, *, most=MOST_STEPS):
    """The place at hand, the registers, the pile and the memory behind at most so many steps."""
    run = Run(pieces, choice, start)
    run.goes(most)
    memory = {holder: run.cells_of(holder) for holder in data_holders(pieces, choice)}
    return run.at, run.registers, run.pile, memory


def moved(place, by):
    """The place so much ahead; "great" where its offset is beyond the bounds."""
    _, holder, offset = place
    return ("at", holder, offset + by) if abs(offset + by) <= GREATEST_OFFSET else "great"


class Run(Steps):
    """A run by names, as far as it has come."""

    def __init__(self, pieces, choice, start):
        super().__init__(place_of(choice[start], start, 0))
        self.pieces = pieces
        self.choice = choice
        # The cells of those holders alone that were asked for.
        self.memory = {}

    def does_item(self):
        """Does the item at hand, whole or, where it faults, not at all; "on", "halt" or the fault."""
        _, holder, offset = self.at
        items = section_of(self.pieces, holder)[3]
        if offset >= len(items):
            return "end"
        self.behind = ("at", holder, offset + 1)
        word, *parts = items[offset]
        deed = DEEDS[word] if word in DEEDS else PLAIN_DEEDS[word]
        return deed(self, *parts)

    def meaning(self, name, more):
        """What the name stands for in the piece at hand, so much more in its offset."""
        piece, _ = self.at[1]
        return place_of(stands_for(self.pieces, self.choice, piece, name), name, more)

    def is_data(self, value):
        """Whether the value is a place in data."""
        return not is_number(value) and not is_in_code(self.pieces, value[1])

    def cells_of(self, holder):
        """The values of the holder's cells."""
        if holder not in self.memory:
            self.memory[holder] = first_cells(self.pieces, self.choice, holder)
        return self.memory[holder]

    def fault_at(self, value, more):
        """The fault of a load or store at the value's place, so much more; None where it goes."""
        if not self.is_data(value):
            return "value"
        _, holder, offset = value
        if not 0 <= offset + more < len(self.cells_of(holder)):
            return "reach"
        return None


def first_cells(pieces, choice, holder):
    """The values of the holder's cells ahead of all steps."""
    if holder[0] == "common":
        return [0] * choice[holder[1]][1]
    piece, section = holder
    cells = []
    for item in pieces[piece][1][section][3]:
        if item[0] == "room":
            cells.extend([0] * item[1])
        elif item[0] == "cell":
            cells.append(item[1])
        else:
            cells.append(value_named(pieces, choice, piece, item))
    return cells


def sum_of(run, one, other):
    """The sum of two values, or the fault."""
    if is_number(one) and is_number(other):
        return bounded(one + other, GREATEST_NUMBER)
    place, by = (other, one) if is_number(one) else (one, other)
    if not run.is_data(place) or not is_number(by):
        return "value"
    return moved(place, by)


def rest_of(run, one, other):
    """One value less the other, or the fault."""
    if is_number(one) and is_number(other):
        return bounded(one - other, GREATEST_NUMBER)
    if not run.is_data(one):
        return "value"
    if is_number(other):
        return moved(one, -other)
    return one[2] - other[2] if one[1] == other[1] else "value"


def product_of(one, other):
    """The product of two values, or the fault."""
    if not is_number(one) or not is_number(other):
        return "value"
    return bounded(one * other, GREATEST_NUMBER)


def does_add(run, r, s):
    """Register r gets the sum of what both hold."""
    return run.gets(r, sum_of(run, run.registers[r], run.registers[s]))


def does_less(run, r, s):
    """Register r gets what it holds less what s holds."""
    return run.gets(r, rest_of(run, run.registers[r], run.registers[s]))


def does_times(run, r, s):
    """Register r gets the product of what both hold."""
    return run.gets(r, product_of(run.registers[r], run.registers[s]))


def does_place(run, r, name, k):
    """Register r gets what the name stands for, k more."""
    return run.gets(r, run.meaning(name, k))


def does_load(run, r, s, k):
    """Register r gets what the cell holds at the place in s, k more."""
    place = run.registers[s]
    fault = run.fault_at(place, k)
    if fault is not None:
        return fault
    _, holder, offset = place
    return run.gets(r, run.cells_of(holder)[offset + k])


def does_store(run, r, s, k):
    """The cell at the place in s, k more, gets what r holds."""
    place = run.registers[s]
    fault = run.fault_at(place, k)
    if fault is not None:
        return fault
    _, holder, offset = place
    cells = run.cells_of(holder)
    cells[offset + k] = run.registers[r]
    return run.goes_on()


def does_call(run, name):
    """Goes on at the name's place and keeps the next item's."""
    place = run.meaning(name, 0)
    return "none" if is_number(place) else run.enters(place)


def does_enter(run, r):
    """Goes on at the place in code that r holds and keeps the next item's."""
    place = run.registers[r]
    if is_number(place) or run.is_data(place):
        return "value"
    return run.enters(place)


def does_jump(run, name):
    """Goes on at the name's place."""
    place = run.meaning(name, 0)
    return "none" if is_number(place) else run.goes_to(place)


def does_when(run, r, name):
    """Goes on at the name's place where r isn't nought."""
    value = run.registers[r]
    if not is_number(value):
        return "value"
    return run.goes_on() if value == 0 else does_jump(run, name)


DEEDS = {
    "add": does_add,
    "less": does_less,
    "times": does_times,
    "load": does_load,
    "store": does_store,
    "place": does_place,
    "call": does_call,
    "jump": does_jump,
    "when": does_when,
    "enter": does_enter,
}
