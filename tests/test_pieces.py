"""Names, sections, pieces, what a piece asks, a section's length: points [2], [4] and [5]."""

import copy
import unittest

from weldmill import pieces
from weldmill.pieces import asked, is_name, is_piece, is_section, length

LETTERS = "abcdefghijklmnopqrstuvwxyz"
FIGURES = "0123456789"

# Bounds of each part of an item; "name" has none.
BOUNDS = {
    "register": (0, 7),
    "small": (-99, 99),
    "little": (0, 99),
    "plain": (-10 ** 9, 10 ** 9),
    "room": (0, 500),
}
CODE = {
    "set": ("register", "plain"),
    "copy": ("register", "register"),
    "add": ("register", "register"),
    "less": ("register", "register"),
    "times": ("register", "register"),
    "load": ("register", "register", "small"),
    "store": ("register", "register", "small"),
    "place": ("register", "name", "little"),
    "call": ("name",),
    "jump": ("name",),
    "when": ("register", "name"),
    "enter": ("register",),
    "back": (),
    "tell": ("register",),
    "halt": (),
}
DATA = {"cell": ("plain",), "at": ("name", "little"), "room": ("room",)}
FORMS = {"code": CODE, "data": DATA}


def deep(inmost, wraps):
    """The inmost thing within so many tuples, lists and dicts in turn."""
    thing = inmost
    for k in range(wraps):
        thing = [(thing,), [thing], {"a": thing}][k % 3]
    return thing


# Things of every kind that is told of: none of them a section or a piece, one a name.
THINGS = [
    0, 1, -1, 7, 8, 10 ** 59, -10 ** 59, True, False, None,
    "", " ", "a", "A", "0", "\n", "\t", "piece", "a b", "~" * 40, "piece a\n",
    (), [], {}, (None,), [None], {None: None}, (0, 0), ["a", (), ()], {"a": (), "b": (), "c": ()},
    ("a",), ("a", ()), ("a", "code"), ("a", "code", 1), ("a", (), (), ()), ("a", "code", 1, (), ()),
    ((), (), ()), ((), (), (), ()), ("code", 1, (), "a"), (True, False, None), (None,) * 3, (None,) * 4,
    ([], [], []), ([], [], [], []), ({}, {}, {}, {}), "abc", "abcd", {0: "a", 1: (), 2: ()},
    deep(0, 20), deep("a", 19), deep((), 18),
]
# What can be no number anywhere.
NO_NUMBERS = [True, False, None, "", "0", "1", (), (0,), [], [1], {}, {0: 0}]
# What can be no name anywhere.
NO_NAMES = ["", "A", "0", "0a", "_a", "a_", "aB", "a b", " a", "a ", "a\n", "\na", "a\t", "a.b", "a-b", "a;",
            "a" * 17, "~", 0, 1, 10 ** 59, True, False, None, (), ("a",), [], ["a"], {}, {"a": "a"}]


def good_parts(part):
    """Things that such a part of an item may be, at its bounds and within."""
    if part == "name":
        return ["a", "z9", "a" * 16, "halt", "x0x"]
    least, greatest = BOUNDS[part]
    return [least, least + 1, (least + greatest) // 2, greatest - 1, greatest]


def bad_parts(part):
    """Things that such a part of an item can't be."""
    if part == "name":
        return NO_NAMES
    least, greatest = BOUNDS[part]
    return NO_NUMBERS + [least - 1, greatest + 1, -10 ** 59, 10 ** 59, "a"]


def sample(word, form):
    """An ordinary item."""
    return (word,) + tuple([good_parts(part)[1] for part in form])


def section_of(kind, *items):
    return ("s", kind, 1, tuple(items))


def one_section_piece(items=(), symbols=(), kind="code", unit=1):
    return ("p", (("s", kind, unit, tuple(items)),), tuple(symbols))


class Names(unittest.TestCase):
    def test_one_to_sixteen_signs(self):
        for many in range(1, 17):
            self.assertIs(is_name("a" * many), True)
            self.assertIs(is_name("a" + "0" * (many - 1)), True)
        for many in (0, 17, 18, 100, 5000):
            self.assertIs(is_name("a" * many), False)

    def test_first_sign_is_a_small_letter(self):
        for code in range(32, 127):
            with self.subTest(chr(code)):
                self.assertIs(is_name(chr(code)), chr(code) in LETTERS)
                self.assertIs(is_name(chr(code) + "b"), chr(code) in LETTERS)

    def test_other_signs_are_small_letters_and_figures(self):
        for sign in [chr(code) for code in range(32, 127)] + ["\n", "\t"]:
            for text in ("a" + sign, "ab" + sign + "cd", "a" * 15 + sign):
                with self.subTest(text):
                    self.assertIs(is_name(text), sign in LETTERS + FIGURES)

    def test_letters_and_figures_of_other_alphabets_are_none(self):
        for text in ("\u00e4", "a\u00e4", "\u0430", "a\u0663", "a\u00b2", "\uff41"):
            self.assertIs(is_name(text), False)

    def test_of_anything(self):
        for thing in NO_NAMES:
            with self.subTest(thing):
                self.assertIs(is_name(thing), False)
        for thing in THINGS:
            with self.subTest(thing):
                self.assertIs(is_name(thing), thing in ("a", "piece", "abc", "abcd"))


class Items(unittest.TestCase):
    def test_each_part_within_its_bounds(self):
        for kind, words in FORMS.items():
            for word, form in words.items():
                item = sample(word, form)
                self.assertIs(is_section(section_of(kind, item)), True)
                for k, part in enumerate(form):
                    for thing in good_parts(part):
                        changed = item[:k + 1] + (thing,) + item[k + 2:]
                        with self.subTest(changed):
                            self.assertIs(is_section(section_of(kind, changed)), True)

    def test_each_part_beyond_its_bounds_or_of_another_kind(self):
        for kind, words in FORMS.items():
            for word, form in words.items():
                item = sample(word, form)
                for k, part in enumerate(form):
                    for thing in bad_parts(part):
                        changed = item[:k + 1] + (thing,) + item[k + 2:]
                        with self.subTest(changed):
                            self.assertIs(is_section(section_of(kind, changed)), False)

    def test_as_many_parts_as_told(self):
        for kind, words in FORMS.items():
            for word, form in words.items():
                item = sample(word, form)
                for extra in (0, 1, "a", None, True, ()):
                    with self.subTest(item + (extra,)):
                        self.assertIs(is_section(section_of(kind, item + (extra,))), False)
                if form:
                    with self.subTest(item[:-1]):
                        self.assertIs(is_section(section_of(kind, item[:-1])), False)

    def test_items_of_the_other_kind(self):
        for kind, other in (("code", "data"), ("data", "code")):
            for word, form in FORMS[kind].items():
                with self.subTest(word):
                    self.assertIs(is_section(section_of(other, sample(word, form))), False)

    def test_an_item_is_a_tuple_that_begins_with_a_known_word(self):
        for thing in THINGS + [["halt"], {"halt": 0}, "halt", ("Halt",), ("halt ",), ("nop",), (b"halt",),
                               (("halt",),), ([],), ({},), ([], 0), (None, 0, 0), (True,), ("section", "a"),
                               ("symbol", "a", "maybe"), ("far", 0, "a"), ("name",)]:
            for kind in ("code", "data"):
                with self.subTest(thing):
                    self.assertIs(is_section(section_of(kind, thing)), False)

    def test_one_wrong_item_among_right_ones(self):
        for at in (0, 5, 9):
            items = [("set", 1, 2)] * 10
            self.assertIs(is_section(section_of("code", *items)), True)
            items[at] = ("set", 8, 2)
            self.assertIs(is_section(section_of("code", *items)), False)


class Sections(unittest.TestCase):
    def test_kinds_and_units(self):
        right = [("code", 1), ("data", 1), ("data", 2), ("data", 4), ("data", 8)]
        for kind in ("code", "data", "Code", "DATA", "", "both", "text", "common"):
            for unit in range(-8, 20):
                with self.subTest(kind=kind, unit=unit):
                    self.assertIs(is_section(("s", kind, unit, ())), (kind, unit) in right)

    def test_a_unit_is_a_whole_number_and_no_truth(self):
        for unit in NO_NUMBERS + [10 ** 59]:
            for kind in ("code", "data"):
                with self.subTest(kind=kind, unit=unit):
                    self.assertIs(is_section(("s", kind, unit, ())), False)

    def test_a_kind_of_anything(self):
        for kind in THINGS:
            with self.subTest(kind):
                self.assertIs(is_section(("s", kind, 1, ())), False)

    def test_its_name_is_a_name(self):
        for name in ("a", "code", "a" * 16):
            self.assertIs(is_section((name, "code", 1, ())), True)
        for name in NO_NAMES:
            with self.subTest(name):
                self.assertIs(is_section((name, "code", 1, ())), False)

    def test_at_most_two_hundred_items(self):
        for kind, item in (("code", ("halt",)), ("data", ("cell", 0)), ("data", ("room", 500))):
            for many, right in ((0, True), (1, True), (199, True), (200, True), (201, False), (400, False)):
                with self.subTest(kind=kind, many=many):
                    self.assertIs(is_section(("s", kind, 1, (item,) * many)), right)

    def test_items_are_a_tuple(self):
        for items in ([], [("halt",)], {}, {("halt",): 0}, "", "halt", None, 0, True, ("halt",)):
            with self.subTest(items):
                self.assertIs(is_section(("s", "code", 1, items)), False)

    def test_four_parts_in_a_tuple(self):
        section = ("s", "code", 1, (("halt",),))
        self.assertIs(is_section(section), True)
        self.assertIs(is_section(list(section)), False)
        self.assertIs(is_section(section[:3]), False)
        self.assertIs(is_section(section + ((),)), False)
        self.assertIs(is_section((section,)), False)

    def test_of_anything(self):
        for thing in THINGS + NO_NAMES + NO_NUMBERS:
            with self.subTest(thing):
                self.assertIs(is_section(thing), False)


class Lengths(unittest.TestCase):
    def test_of_code_the_number_of_items(self):
        items = tuple([sample(word, form) for word, form in CODE.items()])
        self.assertEqual(length(("s", "code", 1, ())), 0)
        self.assertEqual(length(("s", "code", 1, items)), 15)
        self.assertEqual(length(("s", "code", 1, (("halt",),) * 200)), 200)

    def test_of_data_the_number_of_cells(self):
        for unit in (1, 2, 4, 8):
            self.assertEqual(length(("s", "data", unit, ())), 0)
            self.assertEqual(length(("s", "data", unit, (("cell", 7),))), 1)
            self.assertEqual(length(("s", "data", unit, (("at", "a", 9),))), 1)
            self.assertEqual(length(("s", "data", unit, (("room", 0),))), 0)
            self.assertEqual(length(("s", "data", unit, (("room", 500),))), 500)
            mixed = (("cell", 100), ("room", 3), ("at", "a", 50), ("room", 0), ("room", 20), ("cell", 0))
            self.assertEqual(length(("s", "data", unit, mixed)), 26)
            self.assertEqual(length(("s", "data", unit, (("room", 500),) * 200)), 100000)


class Symbols(unittest.TestCase):
    def told(self, symbol, kind="code", items=(("halt",), ("back",))):
        return is_piece(one_section_piece(items, (symbol,), kind))

    def test_places_up_to_a_sections_end(self):
        data = (("cell", 9), ("room", 4), ("at", "a", 0))
        for binding in ("local", "strong", "weak"):
            for offset, right in ((-1, False), (0, True), (1, True), (2, True), (3, False), (10 ** 59, False)):
                with self.subTest(binding=binding, offset=offset):
                    self.assertIs(self.told(("x", binding, (0, offset))), right)
            for offset, right in ((-1, False), (0, True), (3, True), (6, True), (7, False)):
                with self.subTest(binding=binding, offset=offset):
                    self.assertIs(self.told(("x", binding, (0, offset)), "data", data), right)

    def test_places_in_sections_of_the_piece(self):
        for many in range(9):
            sections = tuple([("s", "data", 1, (("room", k),)) for k in range(many)])
            for number in range(-2, 10):
                with self.subTest(many=many, number=number):
                    piece = ("p", sections, (("x", "weak", (number, 0)),))
                    self.assertIs(is_piece(piece), 0 <= number < many)
            for number in range(many):
                self.assertIs(is_piece(("p", sections, (("x", "weak", (number, number)),))), True)
                self.assertIs(is_piece(("p", sections, (("x", "weak", (number, number + 1)),))), False)

    def test_places_are_tuples_of_two_whole_numbers(self):
        wrong = [None, 0, 1, True, "", "00", (), (0,), (0, 0, 0), [0, 0], {0: 0, 1: 0}, (0, None), (None, 0),
                 ("0", 0), (0, "0"), ((0,), 0), (0, []), ([], 0), ({}, {})]
        wrong += [(truth, 0) for truth in (True, False)] + [(0, truth) for truth in (True, False)]
        for binding in ("local", "strong", "weak"):
            for where in wrong:
                with self.subTest(binding=binding, where=where):
                    piece = ("p", (section_of("code", ("halt",)),) * 2, (("x", binding, where),))
                    self.assertIs(is_piece(piece), False)

    def test_sizes_of_commons(self):
        for size in (1, 2, 250, 499, 500):
            self.assertIs(self.told(("x", "common", size)), True)
        for size in NO_NUMBERS + [-1, 0, 501, 10 ** 59, (0, 0), (0, 1)]:
            with self.subTest(size):
                self.assertIs(self.told(("x", "common", size)), False)

    def test_maybe_has_none(self):
        self.assertIs(self.told(("x", "maybe", None)), True)
        for where in (0, 1, True, False, "", (), (0, 0), [], {}, "None"):
            with self.subTest(where):
                self.assertIs(self.told(("x", "maybe", where)), False)

    def test_bindings_of_anything(self):
        for binding in THINGS + ["Local", "global", "none", "commons", ("strong",), ["strong"], {"strong": 0}]:
            for where in ((0, 0), 1, None):
                with self.subTest(binding=binding, where=where):
                    self.assertIs(self.told(("x", binding, where)), False)

    def test_its_name_is_a_name(self):
        for name in ("a", "strong", "a" * 16):
            self.assertIs(self.told((name, "strong", (0, 0))), True)
        for name in NO_NAMES:
            for binding, where in (("strong", (0, 0)), ("common", 1), ("maybe", None)):
                with self.subTest(name):
                    self.assertIs(self.told((name, binding, where)), False)

    def test_three_parts_in_a_tuple(self):
        for symbol in (["x", "maybe", None], ("x", "maybe"), ("x", "maybe", None, None), ("x", "strong", 0, 0),
                       ("x",), (), None, "x", 0, {"x": "maybe"}):
            with self.subTest(symbol):
                self.assertIs(self.told(symbol), False)


class Pieces(unittest.TestCase):
    def test_an_empty_one(self):
        self.assertIs(is_piece(("p", (), ())), True)

    def test_its_name_is_a_name(self):
        self.assertIs(is_piece(("a" * 16, (), ())), True)
        for name in NO_NAMES:
            with self.subTest(name):
                self.assertIs(is_piece((name, (), ())), False)

    def test_at_most_eight_sections(self):
        for many, right in ((0, True), (1, True), (7, True), (8, True), (9, False), (20, False)):
            sections = tuple([("s" + str(k), "code", 1, ()) for k in range(many)])
            self.assertIs(is_piece(("p", sections, ())), right)

    def test_sections_may_have_like_names(self):
        self.assertIs(is_piece(("p", (section_of("code"), section_of("data"), section_of("code")), ())), True)

    def test_each_section_is_one(self):
        right = section_of("code", ("halt",))
        for at in range(3):
            for thing in THINGS + [list(right), section_of("code", ("halt", 0)), section_of("code", ("cell", 0))]:
                sections = [right, right, right]
                sections[at] = thing
                with self.subTest(thing):
                    self.assertIs(is_piece(("p", tuple(sections), ())), False)

    def test_each_symbol_is_one(self):
        for at in range(3):
            symbols = [("a", "maybe", None), ("b", "maybe", None), ("c", "maybe", None)]
            self.assertIs(is_piece(("p", (), tuple(symbols))), True)
            for thing in THINGS + [list(symbols[at]), (symbols[at][0], "common", 0)]:
                symbols[at] = thing
                with self.subTest(thing):
                    self.assertIs(is_piece(("p", (), tuple(symbols))), False)

    def test_places_in_what_is_no_section(self):
        for thing in THINGS:
            with self.subTest(thing):
                self.assertIs(is_piece(("p", (thing,), (("x", "strong", (0, 0)),))), False)

    def test_sections_and_symbols_are_tuples(self):
        section, symbol = section_of("code", ("halt",)), ("x", "strong", (0, 0))
        self.assertIs(is_piece(("p", (section,), (symbol,))), True)
        for wrong in ([section], {section: 0}, section, None, 0, "", True):
            self.assertIs(is_piece(("p", wrong, ())), False)
        for wrong in ([symbol], [], {}, {symbol: 0}, symbol, None, 0, "", True):
            self.assertIs(is_piece(("p", (section,), wrong)), False)

    def test_three_parts_in_a_tuple(self):
        self.assertIs(is_piece(["p", (), ()]), False)
        self.assertIs(is_piece(("p", ())), False)
        self.assertIs(is_piece(("p", (), (), ())), False)
        self.assertIs(is_piece({"p": 0, (): 0, 1: 0}), False)

    def test_at_most_sixty_symbols(self):
        for many, right in ((0, True), (1, True), (59, True), (60, True), (61, False), (120, False)):
            symbols = tuple([("x" + str(1000 + k), "maybe", None) for k in range(many)])
            self.assertIs(is_piece(("p", (), symbols)), right)

    def test_symbols_by_rising_names_none_twice(self):
        def told(*names):
            return is_piece(("p", (), tuple([(name, "maybe", None) for name in names])))
        for names in (("a",), ("a", "b", "c"), ("a", "a0", "aa", "b"), ("x1", "x10", "x2"), ("z9", "za", "zz")):
            self.assertIs(told(*names), True)
        for names in (("b", "a"), ("a", "c", "b"), ("x2", "x10"), ("aa", "a0"), ("a0", "a"),
                      ("a", "a"), ("a", "b", "b"), ("a", "a", "b"), ("a", "b", "a")):
            with self.subTest(names):
                self.assertIs(told(*names), False)

    def test_like_names_of_unlike_bindings(self):
        symbols = (("x", "common", 1), ("x", "maybe", None))
        self.assertIs(is_piece(("p", (), symbols)), False)

    def test_of_anything(self):
        for thing in THINGS + NO_NAMES + NO_NUMBERS:
            with self.subTest(thing):
                self.assertIs(is_piece(thing), False)

    def test_what_is_handed_in_stays(self):
        for thing in THINGS + [("p", ([],), ({},)), ["p", [["s", "code", 1, [["halt"]]]], [["x", "maybe", None]]]]:
            before = copy.deepcopy(thing)
            for tell in (is_name, is_section, is_piece):
                tell(thing)
            self.assertEqual(thing, before)


class Asked(unittest.TestCase):
    def test_names_of_each_item_that_names_one(self):
        items = (("place", 0, "e", 3), ("call", "d"), ("jump", "c"), ("when", 1, "b"), ("set", 0, 0), ("halt",))
        data = section_of("data", ("at", "a", 9), ("cell", 1), ("room", 4))
        self.assertEqual(asked(("p", (section_of("code", *items), data), ())), ["a", "b", "c", "d", "e"])
        for item, name in ((items[0], "e"), (items[1], "d"), (items[2], "c"), (items[3], "b")):
            self.assertEqual(asked(one_section_piece((item,))), [name])
        self.assertEqual(asked(("p", (data,), ())), ["a"])

    def test_nothing_is_asked_by_others(self):
        self.assertEqual(asked(("p", (), ())), [])
        items = [sample(word, form) for word, form in CODE.items() if "name" not in form]
        self.assertEqual(len(items), 11)
        self.assertEqual(asked(one_section_piece(items)), [])
        self.assertEqual(asked(one_section_piece((("cell", 1), ("room", 2)), kind="data")), [])

    def test_each_once_and_rising(self):
        names = ["x2", "b", "x10", "b", "a", "x10", "aa", "a0", "b"]
        items = [("call", name) for name in names]
        self.assertEqual(asked(one_section_piece(items)), ["a", "a0", "aa", "b", "x10", "x2"])
        data = section_of("data", ("at", "b", 0), ("at", "y", 0))
        piece = ("p", (data, section_of("code", *items), data), ())
        self.assertEqual(asked(piece), ["a", "a0", "aa", "b", "x10", "x2", "y"])

    def test_locals_alone_are_left_out(self):
        items = [("call", name) for name in ("e", "d", "c", "b", "a", "f")]
        symbols = (("a", "local", (0, 0)), ("b", "strong", (0, 0)), ("c", "weak", (0, 6)), ("d", "common", 5),
                   ("e", "maybe", None))
        self.assertEqual(asked(one_section_piece(items, symbols)), ["b", "c", "d", "e", "f"])

    def test_symbols_that_no_item_names_are_not_asked(self):
        symbols = (("a", "local", (0, 0)), ("b", "strong", (0, 0)), ("d", "common", 5), ("e", "maybe", None))
        self.assertEqual(asked(one_section_piece((), symbols)), [])

    def test_locals_of_another_section_too(self):
        sections = (section_of("code", ("call", "a"), ("call", "b")), section_of("data", ("at", "a", 0)))
        self.assertEqual(asked(("p", sections, (("a", "local", (1, 1)),))), ["b"])

    def test_each_list_is_a_new_one(self):
        piece = one_section_piece((("call", "a"),))
        first = asked(piece)
        self.assertIs(first.__class__, list)
        first.append("b")
        self.assertEqual(asked(piece), ["a"])
        self.assertEqual(piece, one_section_piece((("call", "a"),)))


class Interface(unittest.TestCase):
    def test_arguments_by_name(self):
        section = section_of("code", ("call", "a"))
        self.assertIs(is_name(thing="a"), True)
        self.assertIs(is_section(thing=section), True)
        self.assertIs(is_piece(thing=("p", (section,), ())), True)
        self.assertEqual(asked(piece=("p", (section,), ())), ["a"])
        self.assertEqual(length(section=section), 1)

    def test_each_is_defined_in_its_file(self):
        for word in ("is_name", "is_section", "is_piece", "asked", "length"):
            self.assertEqual(getattr(pieces, word).__module__, "weldmill.pieces")


if __name__ == "__main__":
    unittest.main()
