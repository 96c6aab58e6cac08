"""What names stand for: points [2], [7] and [8]."""

import copy
import random
import unittest

from weldmill import choice as choices
from weldmill.choice import choose, is_choice, stands_for
from weldmill.errors import Doubled, Missing, Skewed, WeldError
from weldmill.pieces import is_piece


def piece_of(name, symbols=(), code=(), data=()):
    """A piece of section 0, code, and section 1, data; its symbols in any order."""
    sections = (("c", "code", 1, tuple(code)), ("d", "data", 4, tuple(data)))
    return (name, sections, tuple(sorted(symbols)))


def asks(*names):
    """Items of code that ask the names, wherever these are."""
    return [("place", 0, name, 0) for name in names]


HALTS = (("halt",),) * 4
CELLS = (("cell", 5), ("room", 3))


def strong(name, section=1, offset=0):
    return (name, "strong", (section, offset))


def weak(name, section=1, offset=0):
    return (name, "weak", (section, offset))


def local(name, section=1, offset=0):
    return (name, "local", (section, offset))


def common(name, size):
    return (name, "common", size)


def maybe(name):
    return (name, "maybe", None)


def refusal(pieces):
    """The class of the refusal and its fields; None where there is a choice."""
    try:
        choose(pieces)
    except Doubled as refused:
        return (Doubled, refused.name, refused.one, refused.other)
    except (Missing, Skewed) as refused:
        return (refused.__class__, refused.name, refused.piece)
    return None


class Chosen(unittest.TestCase):
    def test_of_no_pieces(self):
        self.assertEqual(choose([]), {})
        self.assertEqual(choose([("p", (), ())]), {})

    def test_a_strong_one(self):
        pieces = [piece_of("a", code=asks("x")), piece_of("b", [strong("x", 1, 3)], data=CELLS)]
        self.assertEqual(choose(pieces), {"x": ("at", 1, 1, 3)})

    def test_a_weak_one(self):
        pieces = [piece_of("a", code=asks("x")), piece_of("b"), piece_of("c", [weak("x", 0, 2)], code=HALTS)]
        self.assertEqual(choose(pieces), {"x": ("at", 2, 0, 2)})

    def test_a_common_one(self):
        self.assertEqual(choose([piece_of("a", [common("x", 7)])]), {"x": ("common", 7)})
        self.assertEqual(choose([piece_of("a", [common("x", 1)]), piece_of("b", code=asks("x"))]), {"x": ("common", 1)})

    def test_in_its_own_piece(self):
        pieces = [piece_of("a", [strong("s", 0, 1), weak("w", 1, 0), common("c", 2)], asks("s", "w", "c"), CELLS)]
        self.assertEqual(choose(pieces), {"s": ("at", 0, 0, 1), "w": ("at", 0, 1, 0), "c": ("common", 2)})

    def test_each_name_that_has_a_definition_asked_or_not(self):
        pieces = [piece_of("a", [strong("s"), weak("w")]), piece_of("b", [common("c", 3)])]
        self.assertEqual(choose(pieces), {"s": ("at", 0, 1, 0), "w": ("at", 0, 1, 0), "c": ("common", 3)})

    def test_no_name_that_is_local_or_maybe_alone(self):
        self.assertEqual(choose([piece_of("a", [local("l"), maybe("m")])]), {})
        self.assertEqual(choose([piece_of("a", [local("l", 0)], code=asks("l")), piece_of("b", [maybe("m")])]), {})

    def test_a_local_name_that_another_piece_defines(self):
        pieces = [piece_of("a", [local("x", 0, 0)], code=asks("x")), piece_of("b", [strong("x")])]
        self.assertEqual(choose(pieces), {"x": ("at", 1, 1, 0)})

    def test_one_strong_among_weak_and_common_ones(self):
        for turn in range(4):
            pieces = [piece_of("a", [weak("x")]), piece_of("b", [common("x", 500)]), piece_of("c", [weak("x")])]
            pieces.insert(turn, piece_of("d", [strong("x", 0, 0)]))
            self.assertEqual(choose(pieces), {"x": ("at", turn, 0, 0)})

    def test_the_greatest_common_of_unlike_sizes(self):
        for sizes in ([1, 2], [2, 1], [500, 1], [1, 500], [3, 9, 4], [9, 10], [10, 9], [100, 20], [20, 100], [4, 4]):
            pieces = [piece_of("p" + str(k), [common("x", size)]) for k, size in enumerate(sizes)]
            self.assertEqual(choose(pieces), {"x": ("common", max(sizes))})

    def test_common_ahead_of_weak(self):
        weak_one, common_one = piece_of("a", [weak("x", 0, 0)]), piece_of("b", [common("x", 1)])
        self.assertEqual(choose([weak_one, common_one]), {"x": ("common", 1)})
        self.assertEqual(choose([common_one, weak_one]), {"x": ("common", 1)})

    def test_the_first_weak_one_of_several(self):
        pieces = [piece_of("e"), piece_of("z", [weak("x", 1, 4)], data=CELLS), piece_of("b", [weak("x", 0, 0)]),
                  piece_of("a", [weak("x", 1, 0)])]
        self.assertEqual(choose(pieces), {"x": ("at", 1, 1, 4)})
        self.assertEqual(choose(pieces[:1] + pieces[2:]), {"x": ("at", 1, 0, 0)})
        self.assertEqual(choose(pieces[::-1]), {"x": ("at", 0, 1, 0)})

    def test_maybe_in_all_that_ask(self):
        pieces = [piece_of("a", [maybe("x")], code=asks("x")), piece_of("b", [maybe("x")], data=[("at", "x", 9)]),
                  piece_of("c", [maybe("x")])]
        self.assertEqual(choose(pieces), {"x": ("none",)})

    def test_maybe_where_there_is_a_definition(self):
        place = ("at", 1, 1, 0)
        for symbol, told in ((strong("x"), place), (weak("x"), place), (common("x", 8), ("common", 8))):
            pieces = [piece_of("a", [maybe("x")], code=asks("x")), piece_of("b", [symbol])]
            self.assertEqual(choose(pieces), {"x": told})

    def test_maybe_beside_local(self):
        pieces = [piece_of("a", [maybe("x")], code=asks("x")), piece_of("b", [local("x", 0)], code=asks("x"))]
        self.assertEqual(choose(pieces), {"x": ("none",)})

    def test_a_name_asked_many_times(self):
        items = asks("x", "y", "x", "x", "y")
        pieces = [piece_of("a", [maybe("y")], items), piece_of("b", [weak("x")], asks("x"))]
        self.assertEqual(choose(pieces), {"x": ("at", 1, 1, 0), "y": ("none",)})

    def test_kinds_of_values(self):
        told = choose([piece_of("a", [strong("s"), common("c", 1), maybe("m")], asks("m"))])
        self.assertIs(told.__class__, dict)
        for value in told.values():
            self.assertIs(value.__class__, tuple)
        self.assertEqual([part.__class__ for part in told["s"]], [str, int, int, int])

    def test_thirty_pieces_of_eight_sections_and_sixty_names(self):
        pieces, right = [], {}
        for k in range(30):
            names = ["n" + str(100 * k + j) for j in range(60)]
            items = asks(*["n" + str((100 * (k + 1) + j) % 3000) for j in range(60)]) * 3
            sections = tuple([("s" + str(j), "code", 1, tuple(items)) for j in range(8)])
            pieces.append(("p" + str(k), sections, tuple(sorted([strong(name, 7, j) for j, name in enumerate(names)]))))
            right.update({name: ("at", k, 7, j) for j, name in enumerate(names)})
        self.assertTrue(all(is_piece(piece) for piece in pieces))
        self.assertEqual(choose(pieces), right)
        self.assertIs(is_choice(pieces, right), True)
        self.assertEqual(refusal(pieces[1:]), (Missing, "n0", 28))

    def test_more_pieces_than_thirty(self):
        pieces = [piece_of("p" + str(k), [strong("x" + str(k))]) for k in range(330)]
        self.assertEqual(choose(pieces), {"x" + str(k): ("at", k, 1, 0) for k in range(330)})


class TwoStrong(unittest.TestCase):
    def test_the_first_two_pieces(self):
        one, other = piece_of("a", [strong("x")]), piece_of("b", [strong("x")])
        self.assertEqual(refusal([one, other]), (Doubled, "x", 0, 1))
        self.assertEqual(refusal([piece_of("c"), other, piece_of("d", [weak("x")]), one]), (Doubled, "x", 1, 3))

    def test_of_three_and_more(self):
        pieces = [piece_of("p" + str(k), [strong("x")] if k in (2, 3, 5, 7) else [weak("x")]) for k in range(9)]
        self.assertEqual(refusal(pieces), (Doubled, "x", 2, 3))
        self.assertEqual(refusal(pieces[3:]), (Doubled, "x", 0, 2))

    def test_strong_and_weak_or_common_or_local_is_none(self):
        for symbol in (weak("x"), common("x", 4), local("x"), maybe("x")):
            self.assertIsNone(refusal([piece_of("a", [strong("x")]), piece_of("b", [symbol])]))

    def test_the_least_name(self):
        names = ["x2", "b", "x10", "aa", "a0"]
        pieces = [piece_of("a", [strong(name) for name in names]), piece_of("b", [strong(name) for name in names])]
        self.assertEqual(refusal(pieces), (Doubled, "a0", 0, 1))

    def test_like_places_are_doubled_too(self):
        piece = piece_of("a", [strong("x", 0, 0)])
        self.assertEqual(refusal([piece, piece_of("b", [strong("x", 0, 0)])]), (Doubled, "x", 0, 1))


class NoDefinition(unittest.TestCase):
    def test_asked_by_each_kind_of_item(self):
        for item in (("place", 0, "x", 0), ("call", "x"), ("jump", "x"), ("when", 3, "x")):
            self.assertEqual(refusal([piece_of("a", code=[item])]), (Missing, "x", 0))
        self.assertEqual(refusal([piece_of("a", data=[("cell", 1), ("at", "x", 9)])]), (Missing, "x", 0))

    def test_the_first_piece_that_asks_it_and_has_not_got_it_as_maybe(self):
        without, asking = piece_of("e"), piece_of("a", code=asks("x"))
        unsure, unasked = piece_of("b", [maybe("x")], asks("x")), piece_of("c", [maybe("x")])
        own = piece_of("d", [local("x", 0)], asks("x"))
        self.assertEqual(refusal([asking, unsure]), (Missing, "x", 0))
        self.assertEqual(refusal([unsure, asking]), (Missing, "x", 1))
        self.assertEqual(refusal([without, unasked, own, unsure, asking, asking]), (Missing, "x", 4))

    def test_a_local_of_another_piece_is_no_definition(self):
        self.assertEqual(refusal([piece_of("a", [local("x")]), piece_of("b", code=asks("x"))]), (Missing, "x", 1))

    def test_the_least_name(self):
        self.assertEqual(refusal([piece_of("a", code=asks("b", "a1")), piece_of("c", code=asks("a0"))]),
                         (Missing, "a0", 1))

    def test_doubled_and_missing_by_rising_names(self):
        def both(doubled, missing):
            return refusal([piece_of("a", [strong(doubled)], asks(missing)), piece_of("b", [strong(doubled)])])
        self.assertEqual(both("a", "b"), (Doubled, "a", 0, 1))
        self.assertEqual(both("b", "a"), (Missing, "a", 0))
        self.assertEqual(both("x10", "x2"), (Doubled, "x10", 0, 1))
        self.assertEqual(both("x2", "x10"), (Missing, "x10", 0))


# A piece with a place in code, in data, at their ends, a common and a name that is maybe.
HOLDER = piece_of("holder", [strong("code", 0, 1), strong("codeend", 0, 4), weak("weakcode", 0, 0),
                             strong("data", 1, 2), weak("dataend", 1, 4), common("com", 9)], HALTS, CELLS)
IN_CODE = ("code", "codeend", "weakcode")
IN_DATA = ("data", "dataend", "com")


class Misused(unittest.TestCase):
    def told(self, item, symbols=()):
        """The refusal of a piece with this item, which stands behind the holder."""
        data = item[0] in ("at", "cell", "room")
        piece = piece_of("user", symbols, HALTS if data else HALTS + (item,), CELLS + (item,) if data else CELLS)
        self.assertIs(is_piece(piece), True)
        return refusal([HOLDER, piece])

    def test_places_in_code_with_a_number_more(self):
        for name in IN_CODE:
            for k in (1, 2, 99):
                self.assertEqual(self.told(("place", 0, name, k)), (Skewed, name, 1))
                self.assertEqual(self.told(("at", name, k)), (Skewed, name, 1))
            self.assertIsNone(self.told(("place", 7, name, 0)))
            self.assertIsNone(self.told(("at", name, 0)))

    def test_places_in_data_with_a_number_more(self):
        for name in IN_DATA:
            for k in (0, 1, 99):
                self.assertIsNone(self.told(("place", 0, name, k)))
                self.assertIsNone(self.told(("at", name, k)))

    def test_going_to_places(self):
        for name in IN_CODE:
            for item in (("call", name), ("jump", name), ("when", 1, name)):
                self.assertIsNone(self.told(item))
        for name in IN_DATA:
            for item in (("call", name), ("jump", name), ("when", 0, name), ("when", 7, name)):
                self.assertEqual(self.told(item), (Skewed, name, 1))

    def test_names_of_nothing(self):
        for item in (("call", "x"), ("jump", "x"), ("when", 0, "x"), ("place", 1, "x", 5), ("at", "x", 5)):
            self.assertIsNone(self.told(item, [maybe("x")]))

    def test_local_names(self):
        for item in (("place", 0, "x", 1), ("at", "x", 99)):
            self.assertEqual(self.told(item, [local("x", 0, 0)]), (Skewed, "x", 1))
            self.assertEqual(self.told(item, [local("x", 0, 4)]), (Skewed, "x", 1))
            self.assertIsNone(self.told(item, [local("x", 1, 0)]))
        for item in (("call", "x"), ("jump", "x"), ("when", 0, "x")):
            self.assertEqual(self.told(item, [local("x", 1, 0)]), (Skewed, "x", 1))
            self.assertIsNone(self.told(item, [local("x", 0, 0)]))

    def test_a_local_name_hides_the_choice(self):
        self.assertIsNone(self.told(("call", "data"), [local("data", 0, 0)]))
        self.assertEqual(self.told(("call", "code"), [local("code", 1, 0)]), (Skewed, "code", 1))
        self.assertIsNone(self.told(("place", 0, "code", 1), [local("code", 1, 0)]))
        self.assertEqual(self.told(("at", "com", 1), [local("com", 0, 0)]), (Skewed, "com", 1))

    def test_the_first_by_pieces_sections_items(self):
        wrong = {"a": ("call", "data"), "b": ("place", 0, "code", 1), "c": ("jump", "com")}
        for first, second in (("a", "b"), ("b", "c"), ("c", "a"), ("b", "a"), ("a", "c")):
            name = wrong[first][1] if first != "b" else "code"
            one, other = wrong[first], wrong[second]
            in_order = ("u", (("s", "code", 1, (("halt",), one, other)),), ())
            sections = ("u", (("s", "code", 1, (one,)), ("s", "code", 1, (other,))), ())
            self.assertEqual(refusal([HOLDER, in_order]), (Skewed, name, 1))
            self.assertEqual(refusal([sections, HOLDER]), (Skewed, name, 0))
            pieces = [piece_of("v"), piece_of("u", code=[one]), HOLDER, piece_of("w", code=[other])]
            self.assertEqual(refusal(pieces), (Skewed, name, 1))
        data_first = ("u", (("s", "data", 1, (("at", "code", 1),)), ("s", "code", 1, (("call", "com"),))), ())
        self.assertEqual(refusal([HOLDER, data_first]), (Skewed, "code", 1))

    def test_behind_doubled_and_missing(self):
        user = piece_of("u", code=[("call", "data")])
        self.assertEqual(refusal([user, HOLDER, piece_of("v", code=asks("zz"))]), (Missing, "zz", 2))
        self.assertEqual(refusal([user, HOLDER, piece_of("v", [strong("z")]), piece_of("w", [strong("z")])]),
                         (Doubled, "z", 2, 3))
        self.assertEqual(refusal([user, HOLDER]), (Skewed, "data", 0))


class IsChoice(unittest.TestCase):
    PIECES = [piece_of("a", [strong("s", 0, 1), common("c", 1), maybe("n")], asks("n"), CELLS),
              piece_of("b", [weak("w", 1, 0), common("d", 7)], asks("s", "w"), CELLS)]
    RIGHT = {"s": ("at", 0, 0, 1), "c": ("common", 1), "n": ("none",), "w": ("at", 1, 1, 0), "d": ("common", 7)}

    def test_the_right_one(self):
        self.assertEqual(choose(self.PIECES), self.RIGHT)
        self.assertIs(is_choice(self.PIECES, self.RIGHT), True)
        self.assertIs(is_choice(self.PIECES, dict(reversed(list(self.RIGHT.items())))), True)
        self.assertIs(is_choice([], {}), True)

    def test_a_name_less_or_more(self):
        for name in self.RIGHT:
            told = {other: value for other, value in self.RIGHT.items() if other != name}
            self.assertIs(is_choice(self.PIECES, told), False)
        for value in (("none",), ("common", 1), ("at", 0, 0, 0), ()):
            self.assertIs(is_choice(self.PIECES, {**self.RIGHT, "x": value}), False)
        self.assertIs(is_choice(self.PIECES, {}), False)
        self.assertIs(is_choice([], {"x": ("none",)}), False)

    def test_one_part_otherwise(self):
        for name, right in self.RIGHT.items():
            for k, part in enumerate(right):
                words = ["none", "at", "common", "", None]
                others = words if isinstance(part, str) else [part + 1, part - 1, -part - 1]
                for other in [thing for thing in others if thing != part] + [(part,), [part], 10 ** 59]:
                    told = {**self.RIGHT, name: right[:k] + (other,) + right[k + 1:]}
                    with self.subTest(name=name, told=told[name]):
                        self.assertIs(is_choice(self.PIECES, told), False)

    def test_truths_in_the_place_of_numbers(self):
        for name, right in self.RIGHT.items():
            for k, part in enumerate(right):
                if part in (0, 1):
                    told = {**self.RIGHT, name: right[:k] + (part == 1,) + right[k + 1:]}
                    with self.subTest(name=name, told=told[name]):
                        self.assertEqual(told, self.RIGHT)
                        self.assertIs(is_choice(self.PIECES, told), False)

    def test_other_tuples(self):
        for name, right in self.RIGHT.items():
            for value in ((), right[:-1], right + (0,), right[::-1], right + right, (right,), ("at", 0, 0, 0, 1),
                          ("at", 1, 0, 0), ("common",), ("common", 2), ("none", 0), ("weak", 1, 1, 0),
                          ("at", (0, 0), 1)):
                if value != right:
                    with self.subTest(name=name, value=value):
                        self.assertIs(is_choice(self.PIECES, {**self.RIGHT, name: value}), False)

    def test_the_tuples_of_two_names_exchanged(self):
        for one in self.RIGHT:
            for other in self.RIGHT:
                told = {**self.RIGHT, one: self.RIGHT[other], other: self.RIGHT[one]}
                self.assertIs(is_choice(self.PIECES, told), one == other)

    def test_where_choose_refuses(self):
        refused = ([piece_of("a", [strong("x")]), piece_of("b", [strong("x")])], [piece_of("a", code=asks("x"))],
                   [piece_of("a", [strong("x")], code=[("call", "x")])])
        for pieces in refused:
            self.assertIsNotNone(refusal(pieces))
            for told in ({}, {"x": ("at", 0, 1, 0)}, {"x": ("none",)}, {"x": ("at", 1, 1, 0)}, {"x": ()}):
                self.assertIs(is_choice(pieces, told), False)


class StandsFor(unittest.TestCase):
    PIECES = [piece_of("a", [local("x", 1, 2), maybe("n"), common("c", 3)], asks("x", "y", "n", "c"), CELLS),
              piece_of("b", [strong("x", 0, 1), weak("y", 1, 1)], HALTS + tuple(asks("x", "y")), CELLS),
              piece_of("c", [local("y", 0, 0), local("z", 1, 4)], asks("x"), CELLS)]

    def test_local_names(self):
        told = choose(self.PIECES)
        self.assertEqual(stands_for(self.PIECES, told, 0, "x"), ("at", 0, 1, 2))
        self.assertEqual(stands_for(self.PIECES, told, 2, "y"), ("at", 2, 0, 0))
        self.assertEqual(stands_for(self.PIECES, told, 2, "z"), ("at", 2, 1, 4))

    def test_names_by_the_choice(self):
        told = choose(self.PIECES)
        self.assertEqual(stands_for(self.PIECES, told, 0, "y"), ("at", 1, 1, 1))
        self.assertEqual(stands_for(self.PIECES, told, 0, "n"), ("none",))
        self.assertEqual(stands_for(self.PIECES, told, 0, "c"), ("common", 3))
        self.assertEqual(stands_for(self.PIECES, told, 1, "x"), ("at", 1, 0, 1))
        self.assertEqual(stands_for(self.PIECES, told, 1, "y"), ("at", 1, 1, 1))
        self.assertEqual(stands_for(self.PIECES, told, 2, "x"), ("at", 1, 0, 1))

    def test_by_the_choice_that_is_handed_in(self):
        self.assertEqual(stands_for(self.PIECES, {"y": ("common", 4)}, 1, "y"), ("common", 4))

    def test_a_weak_name_where_it_is_asked(self):
        pieces = [piece_of("a", [weak("w", 1, 0), weak("x", 1, 1)], asks("w", "x"), CELLS),
                  piece_of("b", [strong("w", 1, 0)])]
        told = choose(pieces)
        self.assertEqual(stands_for(pieces, told, 0, "w"), ("at", 1, 1, 0))
        self.assertEqual(stands_for(pieces, told, 0, "x"), ("at", 0, 1, 1))


class HandedIn(unittest.TestCase):
    def test_nothing_is_changed(self):
        pieces = list(StandsFor.PIECES)
        before = copy.deepcopy(pieces)
        told = choose(pieces)
        kept = dict(told)
        is_choice(pieces, told)
        stands_for(pieces, told, 0, "x")
        self.assertEqual(pieces, before)
        self.assertEqual(told, kept)

    def test_each_dict_is_a_new_one(self):
        first = choose(StandsFor.PIECES)
        right = dict(first)
        first.clear()
        self.assertEqual(choose(StandsFor.PIECES), right)


def plain_choice(pieces):
    """What point 7 tells of the pieces, name by name, without care for time; the refusal in the place of the dict."""
    named = {"place": 2, "call": 1, "jump": 1, "when": 2, "at": 1}
    told, askers, symbols = {}, {}, {}
    for number, (_, sections, own) in enumerate(pieces):
        table = {name: (binding, where) for name, binding, where in own}
        symbols.update({(number, name): row for name, row in table.items()})
        for item in [item for section in sections for item in section[3]]:
            if item[0] in named and table.get(item[named[item[0]]], ("", 0))[0] != "local":
                askers.setdefault(item[named[item[0]]], []).append(number)
    defining = ("strong", "weak", "common")
    names = set(askers) | {name for (_, name), (binding, _) in symbols.items() if binding in defining}
    for name in sorted(names):
        rows = [(k,) + symbols[(k, name)] for k in range(len(pieces)) if (k, name) in symbols]
        strongs = [row for row in rows if row[1] == "strong"]
        weaks = [row for row in rows if row[1] == "weak"]
        sizes = sorted([row[2] for row in rows if row[1] == "common"])
        unsure = [row[0] for row in rows if row[1] == "maybe"]
        if len(strongs) >= 2:
            return (Doubled, name, strongs[0][0], strongs[1][0])
        if strongs or weaks and not sizes:
            row = (strongs + weaks)[0]
            told[name] = ("at", row[0], row[2][0], row[2][1])
        elif sizes:
            told[name] = ("common", sizes[-1])
        else:
            needing = [k for k in askers[name] if k not in unsure]
            if needing:
                return (Missing, name, needing[0])
            told[name] = ("none",)
    for number, (_, sections, _) in enumerate(pieces):
        for item in [item for section in sections for item in section[3] if item[0] in named]:
            name = item[named[item[0]]]
            binding, where = symbols.get((number, name), ("", 0))
            value = ("at", number) + where if binding == "local" else told[name]
            kind = pieces[value[1]][1][value[2]][1] if value[0] == "at" else {"common": "data", "none": None}[value[0]]
            if kind == "code" and item[0] in ("place", "at") and item[-1] != 0:
                return (Skewed, name, number)
            if kind == "data" and item[0] in ("call", "jump", "when"):
                return (Skewed, name, number)
    return told


class ByChance(unittest.TestCase):
    def pieces(self, chance):
        names = ["x" + str(k) for k in range(chance.choice([3, 6, 12]))]
        shares = chance.choice([(2, 1, 1, 1, 2), (0, 5, 0, 0, 6), (0, 2, 2, 1, 8), (0, 1, 3, 0, 3)])
        pieces = []
        for k in range(chance.randint(0, 5)):
            symbols = []
            for name in sorted(chance.sample(names, chance.randint(0, len(names)))):
                binding = chance.choices(["strong", "weak", "common", "local", "maybe"], shares)[0]
                where = {"common": chance.randint(1, 9), "maybe": None}
                symbols.append((name, binding, where.get(binding, (chance.randint(0, 1), 0))))
            code = [chance.choice([("place", 0, chance.choice(names), chance.choice([0, 0, 1])),
                                   ("call", chance.choice(names)), ("jump", chance.choice(names)),
                                   ("when", 0, chance.choice(names)), ("halt",)]) for _ in range(chance.randint(0, 3))]
            data = [("at", chance.choice(names), chance.choice([0, 0, 2])) for _ in range(chance.randint(0, 2))]
            pieces.append(piece_of("p" + str(k), symbols, code, data))
        return pieces

    def test_each_tells_what_is_told(self):
        chance = random.Random(4)
        seen = {}
        for _ in range(6000):
            pieces = self.pieces(chance)
            right = plain_choice(pieces)
            if isinstance(right, dict):
                self.assertEqual(choose(pieces), right)
                self.assertIs(is_choice(pieces, right), True)
                seen["told"] = seen.get("told", 0) + 1
            else:
                self.assertEqual(refusal(pieces), right)
                self.assertIs(is_choice(pieces, {}), False)
                seen[right[0]] = seen.get(right[0], 0) + 1
        self.assertEqual(len(seen), 4)
        self.assertGreater(min(seen.values()), 100)


class Interface(unittest.TestCase):
    def test_arguments_by_name(self):
        pieces = StandsFor.PIECES
        told = choose(pieces=pieces)
        self.assertIs(is_choice(told=told, pieces=pieces), True)
        self.assertEqual(stands_for(name="x", piece=0, choice=told, pieces=pieces), ("at", 0, 1, 2))

    def test_the_refusals_are_weld_errors(self):
        for pieces in ([piece_of("a", [strong("x")]), piece_of("b", [strong("x")])], [piece_of("a", code=asks("x"))],
                       [piece_of("a", [strong("x")], code=[("call", "x")])]):
            with self.assertRaises(WeldError):
                choose(pieces)

    def test_each_is_defined_in_its_file(self):
        for word in ("choose", "is_choice", "stands_for"):
            self.assertEqual(getattr(choices, word).__module__, "weldmill.choice")


if __name__ == "__main__":
    unittest.main()
