"""What is kept and left out: points [2] and [12]."""

import copy
import random
import unittest

from chance import draw_pieces

from weldmill import leaving
from weldmill.choice import choose
from weldmill.leaving import is_why, kept, leads, why


def code(*items):
    return ("c", "code", 1, items)


def data(*items, unit=1):
    return ("d", "data", unit, items)


# (0, 0) names (0, 1), by a local name, and (1, 0) at its end; (0, 1) itself and the common "big"; (0, 2) and (0, 3)
# one another; (1, 0) names (1, 1), and one name that stands for nothing; (1, 1) names (0, 0); (1, 2) is empty;
# (1, 3) names the common "small" and, by a local name, (1, 2); (2, 0) names (0, 2).
PIECES = [
    ("a", (code(("call", "near"), ("place", 0, "table", 3), ("set", 0, 5)),
           code(("jump", "near"), ("place", 1, "big", 0)),
           code(("place", 0, "other", 0)), data(("at", "ring", 0), ("cell", 7))),
     (("near", "local", (1, 0)), ("other", "local", (3, 0)), ("ring", "strong", (2, 0)), ("start", "strong", (0, 0)))),
    ("b", (data(("at", "late", 0), ("at", "void", 9), unit=4), code(("jump", "start")), data(),
           code(("place", 0, "small", 5), ("place", 3, "near", 1))),
     (("big", "common", 4), ("late", "weak", (1, 1)), ("near", "local", (2, 0)), ("small", "common", 1),
      ("table", "strong", (0, 2)), ("third", "strong", (3, 2)), ("void", "maybe", None))),
    ("c", (code(("jump", "ring")),), (("late", "weak", (0, 0)), ("lone", "strong", (0, 1)))),
]
CHOICE = choose(PIECES)
BIG, SMALL = ("common", "big"), ("common", "small")
FROM_START = [(0, 0), (0, 1), (1, 0), (1, 1), BIG]
ALL = [(0, 0), (0, 1), (0, 2), (0, 3), (1, 0), (1, 1), (1, 2), (1, 3), (2, 0), BIG, SMALL]


def kept_with(*keep):
    return kept(PIECES, CHOICE, "start", keep=keep)


def is_told(holder, thing, *keep):
    return is_why(PIECES, CHOICE, holder, thing, "start", keep=keep)


class Leads(unittest.TestCase):
    def test_each(self):
        right = {(0, 0): [(0, 1), (1, 0)], (0, 1): [(0, 1), BIG], (0, 2): [(0, 3)], (0, 3): [(0, 2)],
                 (1, 0): [(1, 1)], (1, 1): [(0, 0)], (1, 2): [], (1, 3): [(1, 2), SMALL], (2, 0): [(0, 2)],
                 BIG: [], SMALL: []}
        for holder, led in right.items():
            self.assertEqual(leads(PIECES, CHOICE, holder), led)

    def test_each_once_and_rising(self):
        items = [("at", name, 0) for name in ("z1", "a2", "s3", "m0", "s3", "z1", "own", "a2")]
        pieces = [("p", (data(*items), data()), (("a2", "common", 1), ("own", "strong", (0, 2)), ("z1", "common", 2)))]
        pieces += [("q" + str(k), (data(),) * 8, ()) for k in range(10)]
        pieces += [("r", (data(),) * 8, (("m0", "strong", (7, 0)), ("s3", "weak", (2, 0))))]
        led = leads(pieces, choose(pieces), (0, 0))
        self.assertEqual(led, [(0, 0), (11, 2), (11, 7), ("common", "a2"), ("common", "z1")])

    def test_all_kinds_of_items(self):
        for item in (("place", 1, "x", 0), ("call", "x"), ("jump", "x"), ("when", 1, "x")):
            pieces = [("p", (code(item), code()), (("x", "local", (1, 0)),))]
            self.assertEqual(leads(pieces, choose(pieces), (0, 0)), [(0, 1)])
        pieces = [("p", (code(("set", 0, 1), ("copy", 0, 1), ("enter", 1), ("load", 1, 1, 1), ("halt",)), code()), ())]
        self.assertEqual(leads(pieces, {}, (0, 0)), [])

    def test_by_the_choice_and_not_by_what_is_not_chosen(self):
        pieces = [("p", (code(("jump", "x")), code()), (("x", "weak", (1, 0)),)),
                  ("q", (code(),), (("x", "strong", (0, 0)),)), ("r", (code(),), (("x", "local", (0, 0)),))]
        self.assertEqual(leads(pieces, choose(pieces), (0, 0)), [(1, 0)])

    def test_a_name_of_nothing(self):
        pieces = [("p", (code(("jump", "x"), ("place", 0, "x", 9)),), (("x", "maybe", None),))]
        self.assertEqual(leads(pieces, choose(pieces), (0, 0)), [])


class Kept(unittest.TestCase):
    def test_from_the_start_alone(self):
        self.assertEqual(kept(PIECES, CHOICE, "start"), FROM_START)
        self.assertEqual(kept_with(), FROM_START)
        self.assertEqual(kept_with("start"), FROM_START)

    def test_another_start(self):
        self.assertEqual(kept(PIECES, CHOICE, "lone"), [(0, 2), (0, 3), (2, 0)])
        self.assertEqual(kept(PIECES, CHOICE, "ring"), [(0, 2), (0, 3)])
        self.assertEqual(kept(PIECES, CHOICE, "third"), [(1, 2), (1, 3), SMALL])
        self.assertEqual(kept(PIECES, CHOICE, "late"), FROM_START)

    def test_with_keep_names(self):
        self.assertEqual(kept_with("ring"), [(0, 0), (0, 1), (0, 2), (0, 3), (1, 0), (1, 1), BIG])
        self.assertEqual(kept_with("small"), FROM_START + [SMALL])
        self.assertEqual(kept_with("big", "big", "start"), FROM_START)
        self.assertEqual(kept_with("table"), FROM_START)
        self.assertEqual(kept_with("third", "lone"), ALL)
        self.assertEqual(kept_with("lone", "small", "third", "ring", "start"), ALL)
        self.assertEqual(kept(PIECES, CHOICE, "ring", keep=("small",)), [(0, 2), (0, 3), SMALL])
        self.assertEqual(kept(PIECES, CHOICE, "ring", keep=("third", "table")), ALL[:8] + [BIG, SMALL])

    def test_a_place_at_the_end_of_a_section_keeps_it(self):
        pieces = [("p", (code(), code(("halt",)), data(("room", 3))),
                   (("end", "strong", (2, 3)), ("go", "strong", (0, 0)), ("last", "strong", (1, 1))))]
        choice = choose(pieces)
        self.assertEqual(kept(pieces, choice, "go"), [(0, 0)])
        self.assertEqual(kept(pieces, choice, "last", keep=("end",)), [(0, 1), (0, 2)])

    def test_a_place_beyond_its_section_keeps_that_one(self):
        pieces = [("p", (code(("place", 0, "x", 99)), data(("cell", 1)), data(("cell", 2))),
                   (("go", "strong", (0, 0)), ("x", "strong", (1, 1))))]
        self.assertEqual(kept(pieces, choose(pieces), "go"), [(0, 0), (0, 1)])

    def test_a_long_way(self):
        pieces = [("p" + str(p), tuple([code(("jump", "x" + str(8 * p + s + 1))) for s in range(8)]),
                   tuple(sorted([("x" + str(8 * p + s), "strong", (s, 0)) for s in range(8)]))) for p in range(30)]
        pieces[29] = ("p29", pieces[29][1][:7] + (code(("jump", "x0")),), pieces[29][2])
        holders = [(p, s) for p in range(30) for s in range(8)]
        self.assertEqual(kept(pieces, choose(pieces), "x0"), holders)
        self.assertEqual(kept(pieces, choose(pieces), "x77"), holders)
        word, way = why(pieces, choose(pieces), (0, 0), "x1")
        self.assertEqual((word, way), ("kept", holders[1:] + [(0, 0)]))


class Why(unittest.TestCase):
    def test_of_kept_ones(self):
        self.assertEqual(why(PIECES, CHOICE, (0, 0), "start"), ("kept", [(0, 0)]))
        self.assertEqual(why(PIECES, CHOICE, BIG, "start"), ("kept", [(0, 0), (0, 1), BIG]))
        self.assertEqual(why(PIECES, CHOICE, (1, 1), "start"), ("kept", [(0, 0), (1, 0), (1, 1)]))
        self.assertEqual(why(PIECES, CHOICE, (0, 0), "late"), ("kept", [(1, 1), (0, 0)]))
        self.assertEqual(why(PIECES, CHOICE, SMALL, "start", keep=("small",)), ("kept", [SMALL]))
        self.assertEqual(why(PIECES, CHOICE, (0, 3), "start", keep=("lone",)), ("kept", [(2, 0), (0, 2), (0, 3)]))

    def test_of_left_ones(self):
        for holder in ((0, 2), (0, 3), (1, 2), (1, 3), (2, 0), SMALL):
            told = why(PIECES, CHOICE, holder, "start")
            self.assertEqual(told[0], "left")
            self.assertIs(is_told(holder, told), True)
        word, holders = why(PIECES, CHOICE, (2, 0), "start", keep=("ring",))
        self.assertEqual(word, "left")
        self.assertIs(is_told((2, 0), (word, holders), "ring"), True)


class IsWhy(unittest.TestCase):
    def test_ways(self):
        good = [((0, 0), [(0, 0)]), ((0, 1), [(0, 0), (0, 1)]), ((0, 1), [(0, 0), (0, 1), (0, 1), (0, 1)]),
                (BIG, [(0, 0), (0, 1), (0, 1), BIG]), ((0, 0), [(0, 0), (1, 0), (1, 1), (0, 0)]),
                (BIG, [(0, 0), (1, 0), (1, 1), (0, 0), (0, 1), BIG])]
        for holder, way in good:
            self.assertIs(is_told(holder, ("kept", way)), True, way)
        bad = [((0, 0), []), ((0, 1), [(0, 0)]), ((0, 1), [(0, 1)]), ((0, 1), [(0, 1), (0, 1)]), (BIG, [BIG]),
               (BIG, [(0, 0), BIG]), ((1, 1), [(0, 0), (1, 1)]), ((1, 0), [(0, 0), (1, 0), (1, 1)]),
               ((1, 0), [(0, 0), (0, 1), (1, 0)]), ((0, 0), [(0, 0), (0, 0)]), ((0, 0), [(0, 0), (0, 1)]),
               ((0, 1), [(0, 1), (0, 0)]), ((0, 2), [(0, 2)]), ((0, 2), [(0, 2), (0, 3), (0, 2)])]
        for holder, way in bad:
            self.assertIs(is_told(holder, ("kept", way)), False, way)
            self.assertIs(is_told(holder, ("left", way)), False, way)

    def test_ways_from_keep_names(self):
        self.assertIs(is_told(BIG, ("kept", [BIG]), "big"), True)
        self.assertIs(is_told(BIG, ("kept", [(0, 1), BIG]), "big"), False)
        self.assertIs(is_told((1, 1), ("kept", [(1, 0), (1, 1)]), "small", "table"), True)
        self.assertIs(is_told((1, 1), ("kept", [(0, 0), (1, 0), (1, 1)]), "small", "table"), True)
        self.assertIs(is_told((1, 1), ("kept", [(1, 0), (1, 1)]), "small"), False)
        self.assertIs(is_told((0, 3), ("kept", [(0, 2), (0, 3), (0, 2), (0, 3)]), "ring"), True)
        self.assertIs(is_told((0, 3), ("kept", [(0, 2), (0, 3), (0, 2), (0, 3)])), False)

    def test_lists_without_it(self):
        for holder in ((2, 0), (1, 3)):
            self.assertIs(is_told(holder, ("left", FROM_START)), True)
        more = [(0, 0), (0, 1), (0, 2), (0, 3), (1, 0), (1, 1), BIG]
        self.assertIs(is_told((2, 0), ("left", more)), True)
        self.assertIs(is_told((0, 2), ("left", more)), False)
        self.assertIs(is_told((2, 0), ("left", ALL[:8] + [BIG, SMALL])), True)
        self.assertIs(is_told((2, 0), ("left", FROM_START + [SMALL])), True)
        self.assertIs(is_told((2, 0), ("left", FROM_START[:4] + [(1, 2), BIG])), True)
        self.assertIs(is_told((2, 0), ("left", ALL)), False)
        self.assertIs(is_told((2, 0), ("kept", FROM_START)), False)

    def test_lists_with_one_part_otherwise(self):
        for k in range(len(FROM_START)):
            self.assertIs(is_told((2, 0), ("left", FROM_START[:k] + FROM_START[k + 1:])), False, k)
            self.assertIs(is_told((2, 0), ("left", FROM_START[:k + 1] + FROM_START[k:])), False, k)
        for k in range(1, len(FROM_START)):
            turned = FROM_START[:k - 1] + [FROM_START[k], FROM_START[k - 1]] + FROM_START[k + 1:]
            self.assertIs(is_told((2, 0), ("left", turned)), False, k)
        without_3 = [(0, 0), (0, 1), (0, 2), (1, 0), (1, 1), BIG]
        self.assertIs(is_told((2, 0), ("left", without_3)), False)
        self.assertIs(is_told((2, 0), ("left", FROM_START), "ring"), False)
        self.assertIs(is_told((0, 0), ("left", FROM_START[1:])), False)
        self.assertIs(is_told((0, 0), ("left", [])), False)
        self.assertIs(is_told((2, 0), ("left", [BIG] + FROM_START[:4])), False)
        two = FROM_START + [SMALL]
        self.assertIs(is_told((2, 0), ("left", two[:4] + [SMALL, BIG])), False)

    def test_holders_that_there_are_not(self):
        for holder in ((2, 1), (3, 0), (9, 9), (0, 4)):
            self.assertIs(is_told((2, 0), ("left", sorted(FROM_START[:4] + [holder]) + [BIG])), False, holder)
        for holder in ((-1, 0), (-3, 0), (0, -4), (0, -1)):
            self.assertIs(is_told((2, 0), ("left", sorted(FROM_START[:4] + [holder]) + [BIG])), False, holder)
            self.assertIs(is_told((0, 0), ("kept", [holder])), False, holder)
        for name in ("table", "void", "zz", "", "start", "near"):
            self.assertIs(is_told((2, 0), ("left", FROM_START + [("common", name)])), False, name)
        self.assertIs(is_told((2, 0), ("left", FROM_START[:4] + [("common", "big", 0)])), False)

    def test_truths(self):
        self.assertIs(is_told((0, 1), ("kept", [(0, 0), (0, True)])), False)
        self.assertIs(is_told((0, 1), ("kept", [(False, 0), (0, 1)])), False)
        self.assertIs(is_told((0, 1), ("kept", [(0, False), (0, 1)])), False)
        truth = [(0, 0), (0, 1), (True, 0), (1, 1), BIG]
        self.assertEqual(truth, FROM_START)
        self.assertIs(is_told((2, 0), ("left", truth)), False)

    def test_of_anything(self):
        way = [(0, 0), (0, 1)]
        things = [None, True, False, 0, 7, 10 ** 59, "", "kept", "left", (), [], {}, ("kept",), ("left",),
                  ("kept", None), ("left", None), ("kept", 5), ("left", True), ("kept", "ab"), ("left", "ab"),
                  ("kept", ()), ("left", {}),
                  ("kept", {(0, 0): (0, 1)}), ("kept", way, way), ["kept", way], ("kept", tuple(way)), ("keep", way),
                  ("left", tuple(FROM_START)), ["left", FROM_START], ("left", FROM_START, 0), ("", way), (None, way),
                  ("left", way), (way, "kept"), (True, way), ([], way), ({}, way), (0, way), ("kept", [[0, 0], [0, 1]]),
                  ("kept", ["ab"]), ("kept", [0, 1]), ("kept", [None]), ("kept", [True]), ("kept", [()]),
                  ("kept", [(0,), (0, 1)]), ("kept", [(0, 0, 0), (0, 1)]), ("kept", [("common",)]), ("kept", [{}]),
                  ("kept", [("common", [])]), ("kept", [("common", {})]), ("kept", [("common", 0)]),
                  ("kept", [("common", None)]), ("kept", [("commons", "big")]), ("kept", [([], 0)]),
                  ("kept", [(0, [])]), ("kept", [({}, {})]), ("kept", [("0", "0")]), ("kept", [(10 ** 59, 0)]),
                  ("kept", [(0, -10 ** 59)]), ("kept", [(0, 0), (0, 1), None]), ("kept", [None, (0, 1)]),
                  ("left", [None]), ("left", [[]]), ("left", FROM_START + [None]), ("left", FROM_START + ["common"]),
                  ("left", [0]), ("left", FROM_START + [("common", (0,))]), ("KEPT", way), ("kept ", way),
                  ("left", FROM_START[:4] + [["common", "big"]]), ("kept", [(0, 0), [(0, 1)]]), ("leave", FROM_START),
                  (None, FROM_START), (True, FROM_START), ("", FROM_START), (0, FROM_START), ([], FROM_START)]
        deep = way
        for _ in range(19):
            deep = [deep]
        things += [deep, ("kept", deep), ("left", deep), ("kept", [(0, deep)])]
        for thing in things:
            for holder in ((0, 1), (2, 0), BIG):
                if (holder, thing) != ((0, 1), ("kept", way)):
                    self.assertIs(is_told(holder, thing), False, thing)
        self.assertIs(is_told((0, 1), ("kept", way)), True)


def plain_kept(pieces, choice, roots):
    """The holders that any way of names leads to from the roots, found by going on till nothing is new."""
    named = {"place": 2, "call": 1, "jump": 1, "when": 2, "at": 1}
    edges = {}
    for p, (_, sections, symbols) in enumerate(pieces):
        local = {name: where[0] for name, binding, where in symbols if binding == "local"}
        for s, section in enumerate(sections):
            edges[(p, s)] = set()
            for item in section[3]:
                if item[0] in named:
                    name = item[named[item[0]]]
                    if name in local:
                        edges[(p, s)].add((p, local[name]))
                    elif choice[name][0] == "at":
                        edges[(p, s)].add(choice[name][1:3])
                    elif choice[name][0] == "common":
                        edges[(p, s)].add(("common", name))
    found = set()
    for name in roots:
        found.add(choice[name][1:3] if choice[name][0] == "at" else ("common", name))
    while True:
        more = found.union(*[edges.get(holder, set()) for holder in found])
        if more == found:
            return edges, found
        found = more


class ByChance(unittest.TestCase):
    def test_each_is_as_told(self):
        chance = random.Random(12)
        lefts = 0
        for _ in range(1500):
            pieces = draw_pieces(chance, chance.randint(1, 5), chance.choice([2, 4, 10]))
            choice = choose(pieces)
            names = [name for name in sorted(choice) if choice[name][0] != "none"]
            keep = tuple(chance.sample(names, chance.choice([0, 0, 1, min(2, len(names))])))
            edges, found = plain_kept(pieces, choice, ("start",) + keep)
            told = kept(pieces, choice, "start", keep=keep)
            self.assertEqual(told, sorted([h for h in found if h[0] != "common"]) +
                             sorted([h for h in found if h[0] == "common"]))
            holders = list(edges) + [("common", name) for name in choice if choice[name][0] == "common"]
            for holder in holders:
                self.assertEqual(set(leads(pieces, choice, holder)), edges.get(holder, set()))
                word, row = why(pieces, choice, holder, "start", keep=keep)
                self.assertEqual(word, "kept" if holder in found else "left")
                self.assertIs(is_why(pieces, choice, holder, (word, row), "start", keep=keep), True)
                lefts += word == "left"
                self.spoilt(chance, pieces, choice, holder, word, row, keep)
        self.assertGreater(lefts, 1000)

    def spoilt(self, chance, pieces, choice, holder, word, row, keep):
        """A list without one part, which is right only where a second reckoning says so."""
        at = chance.randrange(len(row))
        less = row[:at] + row[at + 1:]
        edges, _ = plain_kept(pieces, choice, ("start",) + keep)
        roots = [choice[name][1:3] if choice[name][0] == "at" else ("common", name) for name in ("start",) + keep]
        if word == "kept":
            right = len(less) > 0 and less[0] in roots and less[-1] == holder and all(
                [less[k + 1] in edges.get(less[k], ()) for k in range(len(less) - 1)])
        else:
            right = all([root in less for root in roots]) and all(
                [other in less for one in less for other in edges.get(one, ())])
        self.assertIs(is_why(pieces, choice, holder, (word, less), "start", keep=keep), right)


class HandedIn(unittest.TestCase):
    def test_nothing_is_changed(self):
        before, choice = copy.deepcopy(PIECES), copy.deepcopy(CHOICE)
        thing = ("left", list(FROM_START))
        kept_with("ring", "small")
        why(PIECES, CHOICE, (2, 0), "start", keep=("ring",))
        is_told((2, 0), thing, "start")
        leads(PIECES, CHOICE, (0, 0))
        self.assertEqual((PIECES, CHOICE, thing), (before, choice, ("left", FROM_START)))

    def test_each_list_is_a_new_one(self):
        for tell in (lambda: kept_with(), lambda: leads(PIECES, CHOICE, (0, 0)),
                     lambda: why(PIECES, CHOICE, (2, 0), "start")[1], lambda: why(PIECES, CHOICE, BIG, "start")[1]):
            first = tell()
            right = list(first)
            first.append((9, 9))
            self.assertEqual(tell(), right)
            self.assertIs(tell().__class__, list)


class Interface(unittest.TestCase):
    def test_arguments_by_name(self):
        given = {"pieces": PIECES, "choice": CHOICE, "start": "ring", "keep": ("small",)}
        self.assertEqual(kept(**given), [(0, 2), (0, 3), SMALL])
        self.assertEqual(why(holder=SMALL, **given), ("kept", [SMALL]))
        self.assertIs(is_why(thing=("kept", [SMALL]), holder=SMALL, **given), True)
        self.assertEqual(leads(holder=(0, 2), choice=CHOICE, pieces=PIECES), [(0, 3)])

    def test_keep_left_out(self):
        self.assertEqual(why(PIECES, CHOICE, (0, 3), "ring"), ("kept", [(0, 2), (0, 3)]))
        self.assertIs(is_why(PIECES, CHOICE, (0, 3), ("kept", [(0, 2), (0, 3)]), "ring"), True)
        self.assertIs(is_why(PIECES, CHOICE, SMALL, ("kept", [SMALL]), "ring"), False)

    def test_keep_by_name_alone(self):
        for tell in (lambda: kept(PIECES, CHOICE, "start", ("big",)),
                     lambda: why(PIECES, CHOICE, BIG, "start", ("big",)),
                     lambda: is_why(PIECES, CHOICE, BIG, ("kept", [BIG]), "start", ("big",))):
            with self.assertRaises(TypeError):
                tell()

    def test_each_is_defined_in_its_file(self):
        for word in ("kept", "why", "is_why", "leads"):
            self.assertEqual(getattr(leaving, word).__module__, "weldmill.leaving")


if __name__ == "__main__":
    unittest.main()
