"""Runs by names: points [2], [10] and [11]."""

import copy
import random
import unittest

from weldmill import names
from weldmill.choice import choose
from weldmill.names import MOST_STEPS, run_by_names, state_by_names
from weldmill.pieces import is_piece

NOUGHTS = [0] * 8
TEN_18 = 10 ** 18
TEN_9 = 10 ** 9


def at(piece, section, offset):
    return ("at", (piece, section), offset)


def in_common(name, offset):
    return ("at", ("common", name), offset)


# Behind a piece under test stands this one: places in code and data of all kinds, a common and three names.
OTHER = ("other", (
    ("code", "code", 1, (("tell", 7), ("back",))),
    ("data", "data", 8, (("cell", 11), ("room", 3), ("cell", -12))),
    ("none", "data", 1, ()),
    ("empty", "code", 1, ()),
), (
    ("codeend", "strong", (0, 2)),
    ("com", "common", 6),
    ("dataend", "strong", (1, 5)),
    ("empty", "strong", (3, 0)),
    ("far", "strong", (1, 1)),
    ("near", "weak", (1, 0)),
    ("nothing", "strong", (2, 0)),
    ("sub", "strong", (0, 0)),
))
OTHER_MEMORY = {(1, 1): [11, 0, 0, 0, -12], (1, 2): [], ("common", "com"): [0] * 6}


def pieces_of(code, data=(), labels=None):
    """Piece 0, which begins at "start" with these items and has labels at some of them, and the other one."""
    symbols = [("start", "strong", (0, 0)), ("void", "maybe", None), ("mine", "local", (1, 0))]
    symbols += [(name, "local", (0, offset)) for name, offset in (labels or {}).items()]
    sections = (("c", "code", 1, tuple(code)), ("d", "data", 1, tuple(data)))
    return [("p", sections, tuple(sorted(symbols))), OTHER]


def ran(code, data=(), labels=None, most=MOST_STEPS):
    pieces = pieces_of(code, data, labels)
    return run_by_names(pieces, choose(pieces), "start", most=most)


def state(code, data=(), labels=None, most=MOST_STEPS):
    pieces = pieces_of(code, data, labels)
    return state_by_names(pieces, choose(pieces), "start", most=most)


def told(*code, data=(), labels=None):
    """What is told by a run that halts behind these items."""
    tells, steps, how = ran(code + (("halt",),), data, labels)
    if how != "halt":
        raise AssertionError(how)
    return tells


# How register 1 comes to hold a value of each kind, and the value.
NUMBERS = {5: (("set", 1, 5),), 0: (("set", 1, 0),), -TEN_9: (("set", 1, -TEN_9),)}
IN_DATA = {at(1, 1, 1): (("place", 1, "far", 0),), at(0, 1, 7): (("place", 1, "mine", 7),),
           in_common("com", 2): (("place", 1, "com", 2),), at(1, 2, 99): (("place", 1, "nothing", 99),)}
IN_CODE = {at(1, 0, 0): (("place", 1, "sub", 0),), at(1, 0, 2): (("place", 1, "codeend", 0),),
           at(0, 0, 0): (("place", 1, "start", 0),), at(1, 3, 0): (("place", 1, "empty", 0),)}
VALUES = {**NUMBERS, **IN_DATA, **IN_CODE}


def keeps(many):
    """Items that keep so many places, at labels "loop" and "on", and leave register 6 at nought."""
    return (("set", 6, many), ("set", 5, 1), ("call", "on"), ("less", 6, 5), ("when", 6, "loop"))


KEEPS = {"loop": 2, "on": 3}


class AtFirst(unittest.TestCase):
    def test_nothing_done(self):
        self.assertEqual(ran([("halt",)], most=0), ([], 0, "on"))
        self.assertEqual(ran([], most=0), ([], 0, "on"))
        self.assertEqual(ran([("back",)], most=0), ([], 0, "on"))
        self.assertEqual(state([("halt",)], most=0), (at(0, 0, 0), NOUGHTS, [], {(0, 1): [], **OTHER_MEMORY}))

    def test_the_start(self):
        pieces = [OTHER, ("p", (("e", "data", 1, ()), ("c", "code", 1, (("halt",), ("set", 0, 1), ("halt",)))),
                          (("far", "local", (0, 0)), ("strong", "strong", (1, 1)), ("weak", "weak", (1, 2))))]
        choice = choose(pieces)
        for start, offset in (("strong", 1), ("weak", 2)):
            self.assertEqual(state_by_names(pieces, choice, start, most=0)[0], at(1, 1, offset))
            self.assertEqual(run_by_names(pieces, choice, start), ([], 3 - offset, "halt"))
        self.assertEqual(state_by_names(pieces, choice, "codeend", most=0)[0], at(0, 0, 2))

    def test_a_weak_start_of_several(self):
        row = [("p" + str(k), (("c", "code", 1, (("set", 0, k), ("tell", 0), ("halt",))),), (("go", "weak", (0, 0)),))
               for k in range(3)]
        self.assertEqual(run_by_names(row, choose(row), "go"), ([0], 3, "halt"))
        row[2] = row[2][:2] + ((("go", "strong", (0, 1)),),)
        self.assertEqual(run_by_names(row, choose(row), "go"), ([0], 2, "halt"))
        self.assertEqual(state_by_names(row, choose(row), "go", most=0)[0], at(2, 0, 1))

    def test_cells(self):
        data = (("cell", 0), ("cell", -TEN_9), ("room", 0), ("cell", TEN_9), ("room", 500), ("cell", 7), ("room", 1))
        self.assertEqual(state([], data, most=0)[3][(0, 1)], [0, -TEN_9, TEN_9] + [0] * 500 + [7, 0])

    def test_ats(self):
        data = (("at", "far", 0), ("at", "far", 99), ("at", "dataend", 1), ("at", "com", 0), ("at", "com", 50),
                ("at", "sub", 0), ("at", "codeend", 0), ("at", "void", 0), ("at", "void", 99), ("at", "mine", 2),
                ("at", "label", 0), ("at", "nothing", 3), ("at", "near", 1))
        right = [at(1, 1, 1), at(1, 1, 100), at(1, 1, 6), in_common("com", 0), in_common("com", 50), at(1, 0, 0),
                 at(1, 0, 2), 0, 99, at(0, 1, 2), at(0, 0, 1), at(1, 2, 3), at(1, 1, 1)]
        self.assertEqual(state([("halt",)], data, {"label": 1}, most=0)[3], {(0, 1): right, **OTHER_MEMORY})

    def test_a_local_name_in_data(self):
        sections = (("a", "data", 1, (("at", "x", 4),)), ("b", "data", 1, (("cell", 3),)), ("c", "code", 1, ()))
        row = [("p", sections, (("go", "strong", (2, 0)), ("x", "local", (1, 1)))),
               ("q", sections[:2], (("x", "strong", (0, 0)),))]
        memory = state_by_names(row, choose(row), "go", most=0)[3]
        self.assertEqual(memory, {(0, 0): [at(0, 1, 5)], (0, 1): [3], (1, 0): [at(1, 0, 4)], (1, 1): [3]})

    def test_each_data_section_and_common(self):
        row = [("p" + str(k), (("a", "data", 8, (("cell", k),)), ("b", "code", 1, (("halt",),)), ("c", "data", 2, ())),
                (("c" + str(k % 7), "common", k + 1), ("go" + str(k), "strong", (1, 0)))) for k in range(30)]
        memory = state_by_names(row, choose(row), "go3")[3]
        right = {("common", "c" + str(k)): [0] * size for k, size in enumerate([29, 30, 24, 25, 26, 27, 28])}
        for k in range(30):
            right.update({(k, 0): [k], (k, 2): []})
        self.assertEqual(memory, right)

    def test_a_name_with_a_strong_and_a_common_definition_is_no_common(self):
        sections = (("c", "code", 1, ()), ("d", "data", 1, (("at", "x", 0),)))
        row = [("p", sections, (("go", "strong", (0, 0)), ("x", "common", 5))),
               ("q", (("d", "data", 1, ()),), (("x", "strong", (0, 0)),))]
        self.assertEqual(state_by_names(row, choose(row), "go")[3], {(0, 1): [at(1, 0, 0)], (1, 0): []})


class Values(unittest.TestCase):
    def test_set(self):
        for n in (0, 1, -1, TEN_9, -TEN_9):
            for r in range(8):
                registers = [n if k == r else 0 for k in range(8)]
                self.assertEqual(state([("set", r, n)], most=1)[:3], (at(0, 0, 1), registers, []))

    def test_copy(self):
        for value, code in VALUES.items():
            self.assertEqual(told(*code, ("copy", 3, 1), ("tell", 3), ("tell", 1)), [value, value])
            self.assertEqual(told(*code, ("copy", 1, 1), ("tell", 1), ("tell", 0)), [value, 0])
            self.assertEqual(told(*code, ("copy", 1, 0), ("tell", 1)), [0])

    def test_tell(self):
        for value, code in VALUES.items():
            self.assertEqual(ran(code + (("tell", 1), ("tell", 1), ("tell", 0)), most=4), ([value, value, 0], 4, "on"))

    def test_place(self):
        for name, value in (("far", at(1, 1, 1)), ("dataend", at(1, 1, 5)), ("com", in_common("com", 0)),
                            ("sub", at(1, 0, 0)), ("label", at(0, 0, 2)), ("void", 0), ("mine", at(0, 1, 0))):
            self.assertEqual(told(("place", 4, name, 0), ("tell", 4), labels={"label": 2}), [value])
        for name, offset in (("far", 1), ("dataend", 5), ("nothing", 0)):
            for k in (1, 50, 99):
                value = at(1, 2 if name == "nothing" else 1, offset + k)
                self.assertEqual(told(("place", 0, name, k), ("tell", 0)), [value])
        self.assertEqual(told(("place", 0, "com", 99), ("tell", 0)), [in_common("com", 99)])
        self.assertEqual(told(("place", 0, "void", 99), ("tell", 0)), [99])
        self.assertEqual(told(("place", 0, "mine", 3), ("tell", 0)), [at(0, 1, 3)])

    def test_add_of_numbers(self):
        for one, other in ((0, 0), (2, 3), (-2, 3), (-TEN_9, TEN_9), (TEN_9, TEN_9), (-TEN_9, -TEN_9)):
            code = (("set", 2, one), ("set", 3, other), ("add", 2, 3), ("tell", 2), ("tell", 3))
            self.assertEqual(told(*code), [one + other, other])
        self.assertEqual(told(("set", 2, 21), ("add", 2, 2), ("tell", 2)), [42])

    def test_less_of_numbers(self):
        for one, other in ((0, 0), (2, 3), (3, 2), (-2, 3), (-TEN_9, TEN_9), (TEN_9, -TEN_9)):
            code = (("set", 2, one), ("set", 3, other), ("less", 2, 3), ("tell", 2), ("tell", 3))
            self.assertEqual(told(*code), [one - other, other])
        self.assertEqual(told(("set", 2, 21), ("less", 2, 2), ("tell", 2)), [0])

    def test_times_of_numbers(self):
        for one, other in ((0, 5), (2, 3), (-2, 3), (-2, -3), (TEN_9, TEN_9), (-TEN_9, TEN_9), (-TEN_9, -TEN_9)):
            code = (("set", 2, one), ("set", 3, other), ("times", 2, 3), ("tell", 2), ("tell", 3))
            self.assertEqual(told(*code), [one * other, other])

    def test_add_of_a_place_and_a_number(self):
        for (_, holder, offset), code in IN_DATA.items():
            for n in (0, 1, -1, 1000, -1000):
                right = ("at", holder, offset + n)
                self.assertEqual(told(*code, ("set", 2, n), ("add", 1, 2), ("tell", 1), ("tell", 2)), [right, n])
                self.assertEqual(told(*code, ("set", 2, n), ("add", 2, 1), ("tell", 2), ("tell", 1)),
                                 [right, ("at", holder, offset)])

    def test_less_of_a_place_and_a_number(self):
        for (_, holder, offset), code in IN_DATA.items():
            for n in (0, 1, -1, 1000, -1000):
                right = ("at", holder, offset - n)
                self.assertEqual(told(*code, ("set", 2, n), ("less", 1, 2), ("tell", 1)), [right])

    def test_less_of_two_places_of_one_holder(self):
        for name in ("far", "dataend", "near"):
            for other in ("far", "dataend", "near"):
                offsets = {"far": 1, "dataend": 5, "near": 0}
                code = (("place", 2, name, 9), ("place", 3, other, 2), ("less", 2, 3), ("tell", 2))
                self.assertEqual(told(*code), [offsets[name] - offsets[other] + 7])
        self.assertEqual(told(("place", 2, "com", 1), ("place", 3, "com", 9), ("less", 2, 3), ("tell", 2)), [-8])
        self.assertEqual(told(("place", 2, "com", 1), ("less", 2, 2), ("tell", 2)), [0])

    def test_load(self):
        for k, value in ((-1, 11), (0, 0), (2, 0), (3, -12)):
            self.assertEqual(told(("place", 1, "far", 0), ("load", 2, 1, k), ("tell", 2)), [value])
        self.assertEqual(told(("place", 1, "dataend", 98), ("load", 1, 1, -99), ("tell", 1)), [-12])

    def test_load_of_each_kind_of_value(self):
        data = (("cell", 8), ("at", "far", 3), ("at", "com", 2), ("at", "sub", 0), ("at", "void", 6))
        right = [8, at(1, 1, 4), in_common("com", 2), at(1, 0, 0), 6]
        for k in range(5):
            self.assertEqual(told(("place", 1, "mine", 0), ("load", 0, 1, k), ("tell", 0), data=data), [right[k]])

    def test_store_of_each_kind_of_value(self):
        for value, code in VALUES.items():
            for name, holder, k in (("near", (1, 1), 4), ("com", ("common", "com"), 5), ("far", (1, 1), -1)):
                items = code + (("place", 2, name, 0), ("store", 1, 2, k), ("load", 4, 2, k), ("tell", 4), ("halt",))
                self.assertEqual(ran(items)[0], [value])
                memory = {(0, 1): [], **copy.deepcopy(OTHER_MEMORY)}
                memory[holder][k + (name == "far")] = value
                registers = [0, value, at(1, 1, int(name == "far")), 0, value, 0, 0, 0]
                if name == "com":
                    registers[2] = in_common("com", 0)
                self.assertEqual(state(items), (at(0, 0, len(items) - 1), registers, [], memory))

    def test_a_cell_is_loaded_as_it_was_stored_last(self):
        code = (("place", 1, "com", 3), ("set", 0, 4), ("store", 0, 1, 0), ("set", 0, 5), ("store", 0, 1, 0),
                ("load", 2, 1, 0), ("tell", 2), ("load", 3, 1, 1), ("tell", 3))
        self.assertEqual(told(*code), [5, 0])

    def test_a_place_in_itself(self):
        code = (("place", 1, "com", 0), ("store", 1, 1, 5), ("load", 1, 1, 5), ("store", 1, 1, 0), ("load", 2, 1, 0),
                ("tell", 2))
        self.assertEqual(told(*code), [in_common("com", 0)])


class Going(unittest.TestCase):
    def test_each_item_goes_to_the_next_one(self):
        for item in (("set", 1, 2), ("copy", 1, 2), ("add", 1, 2), ("less", 1, 2), ("times", 1, 2), ("tell", 1),
                     ("place", 1, "far", 0), ("when", 0, "start")):
            self.assertEqual(state([item, ("back",)])[0], at(0, 0, 1))
            self.assertEqual(ran([item, ("back",)])[1:], (1, "empty"))
        for item in (("load", 0, 1, 0), ("store", 0, 1, 0)):
            self.assertEqual(state([("place", 1, "far", 0), item])[0], at(0, 0, 2))

    def test_jump(self):
        code = (("jump", "b"), ("tell", 0), ("set", 0, 1), ("tell", 0), ("jump", "c"), ("set", 0, 2), ("halt",))
        self.assertEqual(ran(code, labels={"b": 3, "c": 6}), ([0], 4, "halt"))
        self.assertEqual(state([("jump", "sub")], most=1)[:3], (at(1, 0, 0), NOUGHTS, []))
        self.assertEqual(state([("jump", "codeend")], most=1)[0], at(1, 0, 2))
        self.assertEqual(ran([("jump", "start")]), ([], 3000, "on"))

    def test_when(self):
        for n in (1, -1, TEN_9, -TEN_9):
            self.assertEqual(state([("set", 3, n), ("when", 3, "sub")], most=2)[0], at(1, 0, 0))
        self.assertEqual(state([("set", 3, 0), ("when", 3, "sub")], most=2)[0], at(0, 0, 2))
        self.assertEqual(state([("set", 3, 1), ("when", 2, "sub")], most=2)[0], at(0, 0, 2))
        self.assertEqual(state([("set", 3, 1), ("when", 3, "sub")], most=2)[2], [])

    def test_a_loop(self):
        code = (("set", 1, 5), ("set", 2, 1), ("tell", 1), ("less", 1, 2), ("when", 1, "loop"), ("halt",))
        self.assertEqual(ran(code, labels={"loop": 2}), ([5, 4, 3, 2, 1], 18, "halt"))

    def test_call_and_back(self):
        code = (("set", 7, 9), ("call", "sub"), ("set", 7, 8), ("call", "sub"), ("halt",))
        self.assertEqual(ran(code), ([9, 8], 9, "halt"))
        self.assertEqual(state(code, most=2)[::2], (at(1, 0, 0), [at(0, 0, 2)]))
        self.assertEqual(state(code, most=4)[::2], (at(0, 0, 2), []))
        self.assertEqual(state(code, most=6)[::2], (at(1, 0, 0), [at(0, 0, 4)]))

    def test_enter(self):
        code = (("place", 3, "sub", 0), ("enter", 3), ("enter", 3), ("halt",))
        self.assertEqual(ran(code), ([0, 0], 8, "halt"))
        self.assertEqual(state(code, most=2)[::2], (at(1, 0, 0), [at(0, 0, 2)]))
        self.assertEqual(state(code, most=5)[::2], (at(1, 0, 0), [at(0, 0, 3)]))
        for (_, holder, offset), items in IN_CODE.items():
            self.assertEqual(state(items + (("enter", 1),), most=2)[::2], (("at", holder, offset), [at(0, 0, 2)]))

    def test_enter_by_a_cell(self):
        data = (("at", "sub", 0), ("at", "label", 0))
        code = (("place", 1, "mine", 0), ("load", 2, 1, 0), ("enter", 2), ("load", 2, 1, 1), ("enter", 2), ("tell", 0),
                ("halt",))
        self.assertEqual(ran(code, data, {"label": 6}), ([0], 8, "halt"))

    def test_places_are_kept_one_above_the_other(self):
        code = (("call", "a"), ("halt",), ("call", "b"), ("back",), ("call", "sub"), ("back",))
        labels = {"a": 2, "b": 4}
        pile = [at(0, 0, 1), at(0, 0, 3), at(0, 0, 5)]
        for most, many, place in ((0, 0, at(0, 0, 0)), (1, 1, at(0, 0, 2)), (2, 2, at(0, 0, 4)), (3, 3, at(1, 0, 0)),
                                  (4, 3, at(1, 0, 1)), (5, 2, at(0, 0, 5)), (6, 1, at(0, 0, 3)), (7, 0, at(0, 0, 1)),
                                  (8, 0, at(0, 0, 1)), (9, 0, at(0, 0, 1))):
            self.assertEqual(state(code, labels=labels, most=most)[::2], (place, pile[:many]))
        self.assertEqual(ran(code, labels=labels), ([0], 8, "halt"))

    def test_a_call_at_the_end_keeps_the_place_behind(self):
        self.assertEqual(state([("call", "start")], most=2)[::2], (at(0, 0, 0), [at(0, 0, 1)] * 2))
        self.assertEqual(ran([("call", "sub")]), ([0], 3, "end"))
        self.assertEqual(state([("call", "sub")])[::2], (at(0, 0, 1), []))

    def test_halt_stays_where_it_is(self):
        for most in (1, 2, 3000):
            self.assertEqual(ran([("halt",), ("tell", 0)], most=most), ([], 1, "halt"))
            self.assertEqual(state([("halt",), ("tell", 0)], most=most)[0], at(0, 0, 0))

    def test_names_as_the_piece_at_hand_has_them(self):
        def piece(name, offset, extra):
            items = (("place", 0, "x", 0), ("tell", 0), ("jump", "y"), ("tell", 1), ("jump", "z"), ("halt",))
            return (name, (("c", "code", 1, items), ("d", "data", 1, (("room", 9),))),
                    tuple(sorted([("x", "local", (1, offset)), ("y", "local", (0, 4 - offset))] + extra)))
        row = [piece("p", 1, [("go", "strong", (0, 0)), ("z", "maybe", None)]),
               piece("q", 0, [("z", "strong", (0, 0))])]
        self.assertEqual(run_by_names(row, choose(row), "go", most=8)[0], [at(0, 1, 1), 0, at(1, 1, 0)])


class Faults(unittest.TestCase):
    def faults(self, code, how, **more):
        """Whether a run of this code does all items but the last one, which faults so and changes nothing."""
        steps = len(code) - 1
        self.assertEqual(ran(code, **more)[1:], (steps, how))
        self.assertEqual(ran(code, most=steps, **more)[1:], (steps, "on"))
        self.assertEqual(ran(code, most=steps + 1, **more)[1:], (steps, how))
        ahead = state(code, most=steps, **more)
        self.assertEqual(ahead[0], at(0, 0, steps))
        for most in (steps + 1, 3000):
            self.assertEqual(state(code, most=most, **more), ahead)

    def test_end(self):
        self.assertEqual(ran([]), ([], 0, "end"))
        self.assertEqual(ran([("set", 0, 1)]), ([], 1, "end"))
        self.assertEqual(ran([("set", 0, 1)], most=1), ([], 1, "on"))
        self.assertEqual(state([("set", 0, 1)])[0], at(0, 0, 1))
        self.assertEqual(ran([("tell", 0)] * 200), ([0] * 200, 200, "end"))
        self.assertEqual(ran([("tell", 0)] * 200, most=200), ([0] * 200, 200, "on"))
        self.assertEqual(ran([("tell", 0)] * 200, most=201), ([0] * 200, 200, "end"))

    def test_end_of_other_sections(self):
        for item in (("jump", "empty"), ("call", "empty"), ("jump", "codeend"), ("call", "codeend")):
            self.assertEqual(ran([item]), ([], 1, "end"))
        for name in ("empty", "codeend"):
            self.assertEqual(ran([("place", 1, name, 0), ("enter", 1)]), ([], 2, "end"))

    def test_end_is_ahead_of_another_section_that_follows(self):
        sections = (("a", "code", 1, (("tell", 0),)), ("b", "code", 1, (("halt",),)))
        row = [("p", sections, (("go", "strong", (0, 0)), ("off", "weak", (0, 1)), ("on", "strong", (1, 0))))]
        self.assertIs(is_piece(row[0]), True)
        self.assertEqual(run_by_names(row, choose(row), "go"), ([0], 1, "end"))
        self.assertEqual(run_by_names(row, choose(row), "off"), ([], 0, "end"))
        self.assertEqual(run_by_names(row, choose(row), "on"), ([], 1, "halt"))

    def test_none(self):
        self.faults([("call", "void")], "none")
        self.faults([("jump", "void")], "none")
        self.faults([("set", 1, -1), ("when", 1, "void")], "none")

    def test_none_only_where_a_when_goes(self):
        self.assertEqual(ran([("when", 1, "void"), ("halt",)]), ([], 2, "halt"))

    def test_values_that_add_does_not_take(self):
        for one, items in VALUES.items():
            for other, others in VALUES.items():
                second = tuple([item[:1] + (2,) + item[2:] for item in others])
                taken = (one in NUMBERS or one in IN_DATA) and (other in NUMBERS or other in IN_DATA)
                taken = taken and (one in NUMBERS or other in NUMBERS)
                code = items + second + (("add", 1, 2),)
                if taken and abs(other if one in IN_DATA else one if other in IN_DATA else 0) < TEN_9:
                    self.assertEqual(ran(code + (("halt",),))[2], "halt")
                elif not taken:
                    self.faults(code, "value")

    def test_values_that_less_does_not_take(self):
        for one, items in VALUES.items():
            for other, others in VALUES.items():
                second = tuple([item[:1] + (2,) + item[2:] for item in others])
                if one in NUMBERS:
                    taken = other in NUMBERS
                elif one in IN_DATA:
                    taken = other in NUMBERS or other in IN_DATA and other[1] == one[1]
                else:
                    taken = False
                code = items + second + (("less", 1, 2),)
                if taken and not (one in IN_DATA and other == -TEN_9):
                    self.assertEqual(ran(code + (("halt",),))[2], "halt")
                elif not taken:
                    self.faults(code, "value")

    def test_two_places_of_unlike_holders(self):
        for one, other in (("far", "com"), ("com", "far"), ("far", "mine"), ("mine", "nothing")):
            self.faults([("place", 1, one, 0), ("place", 2, other, 0), ("less", 1, 2)], "value")

    def test_two_places_of_one_section_of_code(self):
        self.faults([("place", 1, "sub", 0), ("place", 2, "codeend", 0), ("less", 1, 2)], "value")
        self.faults([("place", 1, "sub", 0), ("less", 1, 1)], "value")

    def test_a_place_in_code_and_nought(self):
        for word in ("add", "less", "times"):
            self.faults([("place", 1, "sub", 0), (word, 1, 2)], "value")
            self.faults([("place", 1, "sub", 0), (word, 2, 1)], "value")

    def test_values_that_times_does_not_take(self):
        for one, items in VALUES.items():
            for r, s in ((1, 2), (2, 1), (1, 1)):
                code = items + (("times", r, s),)
                if one in NUMBERS:
                    self.assertEqual(ran(code + (("halt",),))[2], "halt")
                else:
                    self.faults(code, "value")

    def test_values_that_load_and_store_do_not_take(self):
        for items in list(NUMBERS.values()) + list(IN_CODE.values()):
            for word in ("load", "store"):
                self.faults(items + ((word, 2, 1, 0),), "value")
                self.faults(items + ((word, 2, 1, 99),), "value")
                self.faults(items + ((word, 1, 1, -99),), "value")

    def test_values_that_enter_does_not_take(self):
        for items in list(NUMBERS.values()) + list(IN_DATA.values()):
            self.faults(items + (("enter", 1),), "value")

    def test_values_that_when_does_not_take(self):
        for items in list(IN_DATA.values()) + list(IN_CODE.values()):
            self.faults(items + (("when", 1, "sub"),), "value")
            self.faults(items + (("when", 1, "void"),), "value")

    def test_reach(self):
        for name, first, last in (("near", 0, 4), ("far", -1, 3), ("dataend", -5, -1), ("com", 0, 5)):
            for word in ("load", "store"):
                for k in range(first, last + 1):
                    self.assertEqual(ran([("place", 1, name, 0), (word, 0, 1, k), ("halt",)])[2], "halt")
                for k in (first - 1, last + 1, -99, 99):
                    self.faults([("place", 1, name, 0), (word, 0, 1, k)], "reach")

    def test_reach_of_a_moved_place(self):
        for word in ("load", "store"):
            self.assertEqual(ran([("place", 1, "com", 99), (word, 0, 1, -99), ("halt",)])[2], "halt")
            self.assertEqual(ran([("place", 1, "com", 99), (word, 0, 1, -94), ("halt",)])[2], "halt")
            self.faults([("place", 1, "com", 99), (word, 0, 1, -93)], "reach")
            self.faults([("place", 1, "com", 98), (word, 0, 1, -99)], "reach")
            back = [("place", 1, "com", 0), ("set", 2, -30), ("add", 1, 2)]
            self.assertEqual(ran(back + [(word, 0, 1, 30), ("halt",)])[2], "halt")
            self.faults(back + [(word, 0, 1, 29)], "reach")
            self.faults(back + [(word, 0, 1, 36)], "reach")

    def test_reach_in_an_empty_section(self):
        for word in ("load", "store"):
            for name in ("nothing", "mine"):
                for k in (-1, 0, 1):
                    self.faults([("place", 1, name, 0), (word, 0, 1, k)], "reach")
            self.faults([("place", 1, "mine", 0), (word, 0, 1, 3)], "reach", data=(("cell", 1), ("room", 2)))

    def test_great_numbers(self):
        for sign in (1, -1):
            most = [("set", 1, sign * TEN_9), ("set", 2, TEN_9), ("times", 1, 2), ("set", 3, 1), ("set", 4, -1)]
            self.assertEqual(ran(most + [("tell", 1), ("halt",)])[0], [sign * TEN_18])
            up, down = (3, 4) if sign == 1 else (4, 3)
            for item in (("add", 1, up), ("less", 1, down), ("times", 1, 2), ("add", 1, 1), ("times", 1, 1)):
                self.faults(most + [item], "great")
            for item in (("add", 1, down), ("less", 1, up), ("times", 1, 3), ("times", 1, 4), ("add", 1, 0)):
                self.assertEqual(ran(most + [item, ("halt",)])[2], "halt")
            below = most + [("add", 1, down), ("add", 1, up), ("tell", 1)]
            self.assertEqual(ran(below + [("halt",)])[0], [sign * TEN_18])
            self.faults(below + [("add", 1, up)], "great")

    def test_great_products(self):
        just = (("set", 1, TEN_9), ("set", 2, 999999999), ("times", 1, 2), ("set", 3, 2), ("times", 1, 3))
        self.faults(list(just), "great")
        self.assertEqual(told(("set", 1, 999999999), ("times", 1, 1), ("tell", 1)), [999999999 ** 2])

    def test_great_offsets(self):
        for name, place in (("near", at(1, 1, 0)), ("com", in_common("com", 0))):
            for sign in (1, -1):
                most = [("place", 1, name, 0), ("set", 2, sign * TEN_9), ("add", 1, 2), ("set", 3, sign)]
                self.assertEqual(ran(most + [("tell", 1), ("halt",)])[0], [place[:2] + (sign * TEN_9,)])
                self.faults(most + [("add", 1, 3)], "great")
                self.faults(most + [("add", 3, 1)], "great")
                self.faults(most + [("add", 2, 1)], "great")
                self.assertEqual(ran(most + [("less", 1, 3), ("halt",)])[2], "halt")
                less = [("place", 1, name, 0), ("set", 2, sign * TEN_9), ("less", 1, 2), ("set", 3, sign)]
                self.assertEqual(ran(less + [("tell", 1), ("halt",)])[0], [place[:2] + (-sign * TEN_9,)])
                self.faults(less + [("less", 1, 3)], "great")
                self.faults(less + [("less", 1, 2)], "great")
                self.assertEqual(ran(less + [("add", 1, 3), ("halt",)])[2], "halt")
        self.faults([("place", 1, "far", 0), ("set", 2, TEN_9), ("add", 1, 2)], "great")
        self.faults([("place", 1, "near", 99), ("set", 2, TEN_9), ("add", 2, 1)], "great")

    def test_an_offset_has_other_bounds_than_a_number(self):
        code = [("place", 1, "near", 0), ("set", 2, TEN_9), ("copy", 3, 1), ("add", 1, 2), ("less", 3, 2),
                ("less", 1, 3), ("tell", 1), ("add", 1, 2), ("tell", 1), ("halt",)]
        self.assertEqual(ran(code), ([2 * TEN_9, 3 * TEN_9], 10, "halt"))
        self.faults([("set", 2, TEN_9), ("times", 2, 2), ("place", 1, "near", 0), ("add", 1, 2)], "great")

    def test_empty(self):
        self.faults([("back",)], "empty")
        self.faults([("tell", 0), ("tell", 1), ("back",)], "empty")
        self.assertEqual(ran([("call", "on"), ("back",)], labels={"on": 1}), ([], 2, "empty"))

    def test_deep(self):
        self.assertEqual(ran([("call", "start")]), ([], 200, "deep"))
        self.assertEqual(ran([("call", "start")], most=200), ([], 200, "on"))
        self.assertEqual(ran([("call", "start")], most=201), ([], 200, "deep"))
        self.assertEqual(state([("call", "start")])[:3], (at(0, 0, 0), NOUGHTS, [at(0, 0, 1)] * 200))
        self.assertEqual(state([("call", "start")], most=199)[2], [at(0, 0, 1)] * 199)
        code = [("place", 1, "start", 0), ("enter", 1)]
        self.assertEqual(ran(code), ([], 401, "deep"))
        self.assertEqual(state(code)[::2], (at(0, 0, 1), [at(0, 0, 2)] * 200))

    def test_two_hundred_places_and_one_more(self):
        for last, how in ((("call", "sub"), "deep"), (("enter", 1), "deep"), (("jump", "sub"), "on"),
                          (("tell", 1), "on")):
            for many in (199, 200):
                code = (("place", 1, "sub", 0), ("jump", "go"), last) + keeps(many) + (("jump", "last"),)
                labels = {"go": 3, "last": 2, "loop": 5, "on": 6}
                steps = 5 + 3 * many
                right = (steps, how) if many == 200 and how == "deep" else (steps + 1, "on")
                self.assertEqual(ran(code, labels=labels, most=steps + 1)[1:], right)

    def test_back_from_two_hundred_places(self):
        code = keeps(200) + (("tell", 6), ("back",))
        tells, steps, how = ran(code, labels=KEEPS)
        # Behind each back it goes on at "less", which makes the register -1, and so loops and keeps again.
        self.assertEqual((tells, how), ([0], "deep"))
        self.assertEqual(state(code, labels=KEEPS)[2], [at(0, 0, 3)] * 200)

    def test_of_several_the_one_told_first(self):
        full = keeps(200)
        self.assertEqual(ran(full + (("call", "void"),), labels=KEEPS)[1:], (602, "none"))
        self.assertEqual(ran(full + (("enter", 0),), labels=KEEPS)[1:], (602, "value"))
        self.assertEqual(ran(full + (("call", "sub"),), labels=KEEPS)[1:], (602, "deep"))
        self.assertEqual(ran(full, labels=KEEPS)[1:], (602, "end"))

    def test_value_ahead_of_none(self):
        for items in (IN_DATA[at(1, 1, 1)], IN_CODE[at(1, 0, 0)]):
            self.faults(items + (("when", 1, "void"),), "value")


class Steps(unittest.TestCase):
    CODE = (("set", 1, 3), ("tell", 1), ("call", "sub"), ("place", 2, "com", 0), ("store", 1, 2, 5), ("tell", 2),
            ("halt",))

    def test_each_number_of_steps(self):
        tells = [[], [], [3], [3], [3, 0], [3, 0], [3, 0], [3, 0], [3, 0, in_common("com", 0)]]
        for most in range(9):
            self.assertEqual(ran(self.CODE, most=most), (tells[most], most, "on"))
        for most in (9, 10, 2999, 3000):
            self.assertEqual(ran(self.CODE, most=most), (tells[8], 9, "halt"))

    def test_each_state(self):
        places = [at(0, 0, 0), at(0, 0, 1), at(0, 0, 2), at(1, 0, 0), at(1, 0, 1), at(0, 0, 3), at(0, 0, 4),
                  at(0, 0, 5), at(0, 0, 6), at(0, 0, 6)]
        for most, place in enumerate(places):
            registers = [0, 3 if most > 0 else 0, in_common("com", 0) if most > 5 else 0, 0, 0, 0, 0, 0]
            memory = {(0, 1): [], **OTHER_MEMORY, ("common", "com"): [0] * 5 + [3 if most > 6 else 0]}
            pile = [at(0, 0, 3)] if most in (3, 4) else []
            self.assertEqual(state(self.CODE, most=most), (place, registers, pile, memory))

    def test_three_thousand_steps(self):
        self.assertEqual(MOST_STEPS, 3000)
        code = [("tell", 0), ("jump", "start")]
        pieces = pieces_of(code)
        choice = choose(pieces)
        self.assertEqual(run_by_names(pieces, choice, "start"), ([0] * 1500, 3000, "on"))
        self.assertEqual(state_by_names(pieces, choice, "start")[0], at(0, 0, 0))
        self.assertEqual(ran(code, most=3000), ([0] * 1500, 3000, "on"))
        self.assertEqual(ran(code, most=2999), ([0] * 1500, 2999, "on"))
        self.assertEqual(state(code, most=2999)[0], at(0, 0, 1))
        self.assertEqual(ran(code, most=1), ([0], 1, "on"))

    def test_a_halt_at_the_last_step(self):
        loop = [("less", 6, 1), ("copy", 0, 0), ("copy", 0, 0), ("copy", 0, 0), ("when", 6, "loop")]
        code = [("set", 1, 1), ("set", 6, 599)] + loop + [("tell", 6), ("tell", 6), ("halt",)]
        self.assertEqual(ran(code, labels={"loop": 2}), ([0, 0], 3000, "halt"))
        self.assertEqual(ran(code, labels={"loop": 2}, most=2999), ([0, 0], 2999, "on"))

    def test_kinds_of_values(self):
        row = ran(self.CODE)
        self.assertEqual([part.__class__ for part in row], [list, int, str])
        self.assertIs(row.__class__, tuple)
        row = state(self.CODE)
        self.assertEqual([part.__class__ for part in row], [tuple, list, list, dict])
        self.assertIs(row.__class__, tuple)
        for cells in row[3].values():
            self.assertIs(cells.__class__, list)


class HandedIn(unittest.TestCase):
    CODE = (("place", 1, "com", 0), ("store", 1, 1, 2), ("place", 2, "mine", 0), ("store", 1, 2, 0), ("call", "sub"),
            ("tell", 1), ("halt",))

    def test_nothing_is_changed(self):
        pieces = pieces_of(self.CODE, (("cell", 1), ("room", 2)))
        choice = choose(pieces)
        before = copy.deepcopy((pieces, choice))
        run_by_names(pieces, choice, "start")
        state_by_names(pieces, choice, "start")
        self.assertEqual((pieces, choice), before)

    def test_each_list_and_dict_is_a_new_one(self):
        pieces = pieces_of(self.CODE, (("cell", 1), ("room", 2)))
        choice = choose(pieces)
        tells, _, _ = run_by_names(pieces, choice, "start")
        right = list(tells)
        tells.clear()
        self.assertEqual(run_by_names(pieces, choice, "start")[0], right)
        for most in (0, 5, 3000):
            told_first = state_by_names(pieces, choice, "start", most=most)
            before = copy.deepcopy(told_first)
            _, registers, pile, memory = told_first
            registers[0] = 77
            pile.append(77)
            for cells in memory.values():
                cells.append(77)
            memory.clear()
            self.assertEqual(state_by_names(pieces, choice, "start", most=most), before)

    def test_lists_are_not_shared_among_holders(self):
        row = [("p", (("c", "code", 1, ()), ("a", "data", 1, (("room", 2),)), ("b", "data", 1, (("room", 2),))),
                (("com", "common", 2), ("com2", "common", 2), ("go", "strong", (0, 0))))]
        lists = list(state_by_names(row, choose(row), "go")[3].values())
        self.assertEqual(lists, [[0, 0]] * 4)
        lists[0][0] = 5
        self.assertEqual(lists[1:], [[0, 0]] * 3)


def plain_run(pieces, choice, start, most):
    """What points 10 and 11 tell of a run: (tells, steps, how) and the state, step by step."""
    def value_of(piece, name, k):
        table = {own: where for own, binding, where in pieces[piece][2] if binding == "local"}
        if name in table:
            return ("at", (piece, table[name][0]), table[name][1] + k)
        row = choice[name]
        if row[0] == "at":
            return ("at", row[1:3], row[3] + k)
        return ("at", ("common", name), k) if row[0] == "common" else k

    def kind(value):
        if isinstance(value, int):
            return "n"
        return "d" if value[1][0] == "common" or pieces[value[1][0]][1][value[1][1]][1] == "data" else "c"

    memory = {("common", name): [0] * row[1] for name, row in choice.items() if row[0] == "common"}
    for p, piece in enumerate(pieces):
        for s, section in enumerate(piece[1]):
            if section[1] == "data":
                memory[(p, s)] = []
                for item in section[3]:
                    memory[(p, s)] += {"cell": lambda: [item[1]], "room": lambda: [0] * item[1],
                                       "at": lambda: [value_of(p, item[1], item[2])]}[item[0]]()
    here, held, pile = ("at", choice[start][1:3], choice[start][3]), [0] * 8, []
    tells, steps, how = [], 0, "on"
    while steps < most and how == "on":
        (piece, section), offset = here[1:]
        items = pieces[piece][1][section][3]
        if offset == len(items):
            how = "end"
            break
        item = items[offset]
        word, after, gets = item[0], ("at", here[1], offset + 1), None
        if word in ("set", "copy", "place"):
            gets = {"set": lambda: item[2], "copy": lambda: held[item[2]],
                    "place": lambda: value_of(piece, item[2], item[3])}[word]()
        elif word in ("add", "less", "times"):
            x, y = held[item[1]], held[item[2]]
            kinds = kind(x) + kind(y)
            if kinds == "nn":
                gets = x + y if word == "add" else x - y if word == "less" else x * y
            elif word == "add" and kinds == "nd":
                gets = ("at", y[1], y[2] + x)
            elif word in ("add", "less") and kinds == "dn":
                gets = ("at", x[1], x[2] + (y if word == "add" else -y))
            elif word == "less" and kinds == "dd" and x[1] == y[1]:
                gets = x[2] - y[2]
            else:
                how = "value"
            if how == "on" and (abs(gets) > 10 ** 18 if isinstance(gets, int) else abs(gets[2]) > 10 ** 9):
                how = "great"
        elif word in ("load", "store"):
            place = held[item[2]]
            if kind(place) != "d":
                how = "value"
            elif place[2] + item[3] not in range(len(memory[place[1]])):
                how = "reach"
            elif word == "load":
                gets = memory[place[1]][place[2] + item[3]]
            else:
                memory[place[1]][place[2] + item[3]] = held[item[1]]
        elif word in ("call", "jump", "when", "enter"):
            goes = word != "when" or held[item[1]] != 0
            target = held[item[1]] if word == "enter" else value_of(piece, item[-1], 0)
            if word == "when" and kind(held[item[1]]) != "n" or word == "enter" and kind(target) != "c":
                how = "value"
            elif word != "enter" and goes and kind(target) == "n":
                how = "none"
            elif word in ("call", "enter") and len(pile) > 199:
                how = "deep"
            else:
                pile += [after] if word in ("call", "enter") else []
                after = target if goes else after
        elif word == "back":
            how = "on" if pile else "empty"
            after = pile.pop() if pile else after
        elif word == "tell":
            tells.append(held[item[1]])
        else:
            how, after = "halt", here
        if how in ("on", "halt"):
            steps += 1
            here = after
            if gets is not None:
                held[item[1]] = gets
    return (tells, steps, how), (here, held, pile, memory)


class ByChance(unittest.TestCase):
    NAMES = ["c0", "c1", "c2", "c3", "d0", "d1", "d2", "com0", "com1", "v0"]

    def item(self, chance):
        r, s = chance.randrange(4), chance.randrange(4)
        word = chance.choice(["set", "copy", "add", "add", "less", "times", "load", "store", "place", "place", "call",
                              "jump", "when", "when", "enter", "back", "tell", "tell", "halt"])
        code, anything = chance.choice(["c0", "c1", "c2", "c3", "c0", "c1", "v0"]), chance.choice(self.NAMES)
        more = 0 if anything[0] == "c" and anything[1] != "o" else chance.choice([0, 1, 3])
        rest = {"set": (r, chance.choice([0, 1, -1, 2, TEN_9, -TEN_9])), "load": (r, s, chance.choice([0, 1, -1])),
                "store": (r, s, chance.choice([0, 1, -1])), "place": (r, anything, more), "call": (code,),
                "jump": (code,), "when": (r, code), "enter": (r,), "back": (), "tell": (r,), "halt": ()}
        return (word,) + rest.get(word, (r, s))

    def cell(self, chance):
        name = chance.choice(self.NAMES)
        more = 0 if name[0] == "c" and name[1] != "o" else chance.choice([0, 2])
        return chance.choice([("cell", chance.randint(-3, 3)), ("room", chance.randint(0, 2)), ("at", name, more)])

    def pieces(self, chance):
        pieces = []
        for k in range(2):
            code = [self.item(chance) for _ in range(chance.choice([3, 8, 12]))]
            code = [("place", 1, "d" + str(k), 0), ("place", 2, "c" + str(k), 0)][:chance.randint(0, 2)] + code
            data = tuple([self.cell(chance) for _ in range(chance.randint(0, 4))])
            size = sum([item[1] if item[0] == "room" else 1 for item in data])
            sections = (("d", "data", 2, data), ("c", "code", 1, tuple(code)), ("e", "code", 1, (("halt",),) * k))
            symbols = [("c" + str(2 * k), "strong", (1, 0)), ("c" + str(2 * k + 1), "weak", (1, len(code) // 2)),
                       ("com" + str(k), "common", k + 1), ("d" + str(k), "strong", (0, 0)),
                       ("d2", ["weak", "local"][k], (0, size)), ("v0", "maybe", None)]
            if chance.random() < 0.3:
                symbols.append(("c" + str(2 - 2 * k), "local", (1, chance.randint(0, len(code)))))
            pieces.append(("p" + str(k), sections, tuple(sorted(symbols))))
        return pieces

    def test_each_run_is_as_told(self):
        chance = random.Random(6)
        seen = {}
        for _ in range(3000):
            pieces = self.pieces(chance)
            choice = choose(pieces)
            start = chance.choice(["c0", "c1", "c2", "c3"])
            for most in (0, chance.randint(1, 30), 700):
                right, state_right = plain_run(pieces, choice, start, most)
                self.assertEqual(run_by_names(pieces, choice, start, most=most), right)
                self.assertEqual(state_by_names(pieces, choice, start, most=most), state_right)
            seen[right[2]] = seen.get(right[2], 0) + 1
        self.assertEqual(sorted(seen), ["deep", "empty", "end", "great", "halt", "none", "on", "reach", "value"])


class Interface(unittest.TestCase):
    def test_arguments_by_name(self):
        pieces = pieces_of([("tell", 0), ("halt",)])
        choice = choose(pieces)
        self.assertEqual(run_by_names(most=5, start="start", choice=choice, pieces=pieces), ([0], 2, "halt"))
        self.assertEqual(state_by_names(most=1, start="start", choice=choice, pieces=pieces)[0], at(0, 0, 1))

    def test_most_by_name_alone(self):
        pieces = pieces_of([("halt",)])
        for tell in (run_by_names, state_by_names):
            with self.assertRaises(TypeError):
                tell(pieces, choose(pieces), "start", 5)

    def test_each_is_defined_in_its_file(self):
        for word in ("run_by_names", "state_by_names"):
            self.assertEqual(getattr(names, word).__module__, "weldmill.names")
        self.assertIs(MOST_STEPS.__class__, int)


if __name__ == "__main__":
    unittest.main()
