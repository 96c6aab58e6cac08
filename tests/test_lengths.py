"""Addresses, near and far forms, ranks: points [2], [13] and [14]."""

import copy
import random
import unittest
from itertools import combinations

from chance import draw_pieces

from weldmill import lengths
from weldmill.choice import choose
from weldmill.leaving import leads
from weldmill.lengths import are_ranks, far_ones, laid


def code(*items):
    return ("c", "code", 1, items)


def data(*items, unit=1):
    return ("d", "data", unit, items)


def sets(many):
    """Items of so many cells, an even number."""
    return (("set", 0, 1),) * (many // 2)


def tells(many):
    """Items of so many cells."""
    return (("tell", 0),) * many


def piece(*sections, **symbols):
    return ("p", sections, tuple(sorted([(name,) + row for name, row in symbols.items()])))


def local(section, offset):
    return ("local", (section, offset))


MAYBE = ("maybe", None)
COMMON = ("common", 3)


def all_laid(pieces, order, *far):
    return laid(pieces, choose(pieces), order, list(far))


def all_far(pieces, order):
    return far_ones(pieces, choose(pieces), order)


class Laid(unittest.TestCase):
    def test_of_none(self):
        self.assertEqual(laid([], {}, [], []), ({}, 1))
        self.assertEqual(all_laid([piece(code(("halt",)))], []), ({}, 1))

    def test_cells_of_each_instruction(self):
        ones = [("copy", 0, 1), ("add", 0, 1), ("less", 0, 1), ("times", 0, 1), ("load", 0, 1, 0), ("store", 0, 1, 0),
                ("enter", 0), ("back",), ("tell", 0), ("halt",), ("place", 0, "x", 0), ("call", "x"), ("jump", "x"),
                ("when", 0, "x")]
        for item in ones:
            self.assertEqual(all_laid([piece(code(item), x=local(0, 0))], [(0, 0)]), ({(0, 0): 1}, 2), item)
        self.assertEqual(all_laid([piece(code(("set", 0, 0)))], [(0, 0)]), ({(0, 0): 1}, 3))
        for item in ones[10:]:
            pieces = [piece(code(item), x=local(0, 0))]
            self.assertEqual(all_laid(pieces, [(0, 0)], (0, 0, 0)), ({(0, 0): 1}, 3), item)

    def test_one_behind_the_other(self):
        pieces = [piece(code(*tells(5)), code(), code(*sets(4)), data(("cell", 1), ("room", 3), ("room", 0)), data())]
        order = [(0, 0), (0, 1), (0, 2), (0, 3), (0, 4)]
        right = {(0, 0): 1, (0, 1): 6, (0, 2): 6, (0, 3): 10, (0, 4): 14}
        self.assertEqual(all_laid(pieces, order), (right, 14))
        self.assertEqual(all_laid(pieces, [(0, 2), (0, 1), (0, 0), (0, 4), (0, 3)]),
                         ({(0, 2): 1, (0, 1): 5, (0, 0): 5, (0, 4): 10, (0, 3): 10}, 14))

    def test_far_ones(self):
        items = (("jump", "x"), ("place", 0, "x", 0), ("set", 0, 1), ("call", "x"), ("when", 0, "x"))
        pieces = [piece(code(*items), code(*items), x=local(0, 0))]
        order = [(0, 0), (0, 1)]
        self.assertEqual(all_laid(pieces, order), ({(0, 0): 1, (0, 1): 7}, 13))
        self.assertEqual(all_laid(pieces, order, (0, 0, 0)), ({(0, 0): 1, (0, 1): 8}, 14))
        self.assertEqual(all_laid(pieces, order, (0, 1, 4)), ({(0, 0): 1, (0, 1): 7}, 14))
        self.assertEqual(all_laid(pieces, order, (0, 1, 3), (0, 0, 4), (0, 0, 1)), ({(0, 0): 1, (0, 1): 9}, 16))
        all_of_them = [(0, s, k) for s in (0, 1) for k in (0, 1, 3, 4)]
        self.assertEqual(all_laid(pieces, order, *all_of_them), ({(0, 0): 1, (0, 1): 11}, 21))

    def test_units(self):
        for ahead in range(20):
            for unit in (1, 2, 4, 8):
                pieces = [piece(code(*tells(ahead)), data(("room", 3), unit=unit), data(unit=unit))]
                addresses, length = all_laid(pieces, [(0, 0), (0, 1), (0, 2)])
                first = [a for a in range(ahead + 1, ahead + 9) if a % unit == 0][0]
                last = [a for a in range(first + 3, first + 11) if a % unit == 0][0]
                self.assertEqual((addresses, length), ({(0, 0): 1, (0, 1): first, (0, 2): last}, last))

    def test_commons(self):
        pieces = [piece(data(("cell", 5), unit=8), data(unit=4), b=("common", 3), a=("common", 500))]
        self.assertEqual(all_laid(pieces, [("common", "b"), (0, 0), ("common", "a"), (0, 1)]),
                         ({("common", "b"): 1, (0, 0): 8, ("common", "a"): 9, (0, 1): 512}, 512))
        self.assertEqual(all_laid(pieces, [("common", "a")]), ({("common", "a"): 1}, 501))

    def test_an_order_of_some_alone(self):
        pieces = [piece(code(*tells(3)), data(("cell", 1))), piece(code(*tells(7)), data(("room", 9)))]
        self.assertEqual(all_laid(pieces, [(1, 0), (0, 1)]), ({(1, 0): 1, (0, 1): 8}, 9))


class Needs(unittest.TestCase):
    """Each is far where it just lacks what it needs, near where it just has it."""

    def is_far(self, pieces, order, one):
        far, ranks = all_far(pieces, order)
        self.assertEqual(far, sorted(ranks))
        return one in far

    def test_places_of_data(self):
        for offset, k, right in ((253, 0, False), (254, 0, True), (253, 1, True), (251, 2, False), (154, 99, False),
                                 (155, 99, True), (0, 99, False), (400, 0, True)):
            pieces = [piece(code(("place", 0, "x", k)), data(("room", 400)), x=local(1, offset))]
            self.assertIs(self.is_far(pieces, [(0, 0), (0, 1)], (0, 0, 0)), right, (offset, k))

    def test_places_of_commons(self):
        for ahead, k, right in ((252, 3, False), (252, 4, True), (255, 0, False), (256, 0, True), (156, 99, False),
                                (157, 99, True), (256, 99, True)):
            pieces = [piece(code(("place", 0, "x", k)), data(("room", ahead - 2)), x=COMMON)]
            self.assertIs(self.is_far(pieces, [(0, 0), (0, 1), ("common", "x")], (0, 0, 0)), right, (ahead, k))

    def test_places_of_code(self):
        for offset in range(100, 131):
            pieces = [piece(code(("place", 0, "x", 0)), code(*sets(260)), x=local(1, offset))]
            self.assertIs(self.is_far(pieces, [(0, 0), (0, 1)], (0, 0, 0)), 2 + 2 * offset > 255, offset)

    def test_places_at_ends(self):
        for many in range(250, 258, 2):
            pieces = [piece(code(("place", 0, "x", 0)), code(*sets(many)), x=local(1, many // 2))]
            self.assertIs(self.is_far(pieces, [(0, 0), (0, 1)], (0, 0, 0)), 2 + many > 255, many)

    def test_places_of_none(self):
        for k in (0, 1, 99):
            pieces = [piece(code(*sets(300), ("place", 0, "x", k)), x=MAYBE)]
            self.assertEqual(all_far(pieces, [(0, 0)]), ([], {}))

    def test_ahead(self):
        for word in (("call", "x"), ("jump", "x"), ("when", 1, "x")):
            for many in (60, 61, 62, 63, 64, 150):
                pieces = [piece(code(word, *tells(many)), x=local(0, many + 1))]
                self.assertIs(self.is_far(pieces, [(0, 0)], (0, 0, 0)), many + 1 > 63, (word, many))
                pieces = [piece(code(word, *tells(many)), code(("halt",)), x=local(1, 0))]
                self.assertIs(self.is_far(pieces, [(0, 0), (0, 1)], (0, 0, 0)), many + 1 > 63, (word, many))

    def test_back(self):
        for word in (("call", "x"), ("jump", "x"), ("when", 1, "x")):
            for many in (62, 63, 64, 65, 66, 150):
                pieces = [piece(code(*tells(many), word), x=local(0, 0))]
                self.assertIs(self.is_far(pieces, [(0, 0)], (0, 0, many)), many > 64, (word, many))
                pieces = [piece(code(word), code(*tells(many)), x=local(1, 0))]
                self.assertIs(self.is_far(pieces, [(0, 1), (0, 0)], (0, 0, 0)), many > 64, (word, many))

    def test_distances_count_cells(self):
        for many, right in ((30, False), (31, False), (32, True)):
            pieces = [piece(code(("jump", "x"), *sets(2 * many)), x=local(0, many + 1))]
            self.assertIs(self.is_far(pieces, [(0, 0)], (0, 0, 0)), right)
        for many, right in ((31, False), (32, False), (33, True)):
            pieces = [piece(code(*sets(2 * many), ("jump", "x")), x=local(0, 0))]
            self.assertIs(self.is_far(pieces, [(0, 0)], (0, 0, many)), right)

    def test_distances_of_none(self):
        for word in (("call", "x"), ("jump", "x"), ("when", 1, "x")):
            pieces = [piece(code(*sets(300), word), x=MAYBE)]
            self.assertEqual(all_far(pieces, [(0, 0)]), ([], {}))

    def test_at_itself(self):
        pieces = [piece(code(*sets(300), ("jump", "x")), x=local(0, 150))]
        self.assertEqual(all_far(pieces, [(0, 0)]), ([], {}))

    def test_the_order_tells(self):
        pieces = [piece(code(("jump", "x")), code(*tells(100)), code(("halt",)), x=local(2, 0))]
        self.assertEqual(all_far(pieces, [(0, 0), (0, 1), (0, 2)]), ([(0, 0, 0)], {(0, 0, 0): 1}))
        self.assertEqual(all_far(pieces, [(0, 0), (0, 2), (0, 1)]), ([], {}))
        self.assertEqual(all_far(pieces, [(0, 2), (0, 1), (0, 0)]), ([(0, 0, 0)], {(0, 0, 0): 1}))
        self.assertEqual(all_far(pieces, [(0, 2), (0, 0)]), ([], {}))

    def test_units_count(self):
        for unit in (1, 2, 4, 8):
            pieces = [piece(code(("place", 0, "x", 0)), data(("room", 247)), data(unit=unit), x=local(2, 0))]
            self.assertIs(self.is_far(pieces, [(0, 0), (0, 1), (0, 2)], (0, 0, 0)), unit == 8)

    def test_of_none_at_all(self):
        self.assertEqual(far_ones([], {}, []), ([], {}))
        self.assertEqual(all_far([piece(code(), data())], [(0, 0), (0, 1)]), ([], {}))


def row_of(many):
    """Pieces and an order: so many jumps, each at the greatest near distance, to behind the next, the last one far."""
    sections, symbols = [], {}
    for k in range(many):
        sections.append(code(("jump", "x" + str(k)), *tells(61)))
        symbols["x" + str(k)] = local(k + 1, 1)
    sections.append(code(("jump", "y"), *tells(63)))
    sections.append(code())
    symbols["y"] = local(many + 1, 0)
    return [piece(*sections, **symbols)], [(0, s) for s in range(many + 2)]


class Ranks(unittest.TestCase):
    def test_rank_1(self):
        pieces = [piece(code(("jump", "x"), ("when", 0, "x"), *tells(150), ("call", "y")), x=local(0, 152),
                        y=local(0, 3))]
        far = [(0, 0, 0), (0, 0, 1), (0, 0, 152)]
        self.assertEqual(all_far(pieces, [(0, 0)]), (far, {one: 1 for one in far}))

    def test_far_only_because_another_is(self):
        for many, right in ((61, ([], {})), (62, ([(0, 0, 1)], {(0, 0, 1): 1}))):
            items = (("jump", "x"), ("jump", "y"), *tells(many), ("halt",))
            pieces = [piece(code(*items), x=local(0, 40), y=local(0, many + 3))]
            self.assertEqual(all_far(pieces, [(0, 0)]), right)
        pieces = [piece(code(("jump", "x"), ("jump", "y"), *tells(62), ("halt",)), x=local(0, 63), y=local(0, 65))]
        self.assertEqual(all_far(pieces, [(0, 0)]), ([(0, 0, 0), (0, 0, 1)], {(0, 0, 1): 1, (0, 0, 0): 2}))
        pieces = [piece(code(("jump", "x"), ("jump", "y"), *tells(62), ("halt",)), x=local(0, 62), y=local(0, 65))]
        self.assertEqual(all_far(pieces, [(0, 0)]), ([(0, 0, 1)], {(0, 0, 1): 1}))

    def test_a_long_row(self):
        for many in range(6):
            pieces, order = row_of(many)
            far = [(0, s, 0) for s in range(many + 1)]
            self.assertEqual(all_far(pieces, order), (far, {(0, s, 0): many + 1 - s for s in range(many + 1)}))

    def test_a_place_far_because_a_jump_is(self):
        ahead = (("place", 0, "t", 0), ("place", 1, "t", 1), ("place", 1, "t", 2))
        pieces = [piece(code(*ahead, *tells(100)), code(("jump", "y"), *tells(70)), code(*tells(75)), data(("room", 3)),
                        t=local(3, 0), y=local(1, 71))]
        order = [(0, 0), (0, 1), (0, 2), (0, 3)]
        addresses, _ = all_laid(pieces, order)
        self.assertEqual(addresses[(0, 3)], 250)
        pieces[0] = piece(*pieces[0][1][:2], code(*tells(79)), data(("room", 3)), t=local(3, 0), y=local(1, 71))
        self.assertEqual(all_laid(pieces, order)[0][(0, 3)], 254)
        self.assertEqual(all_far(pieces, order), ([(0, 0, 0), (0, 0, 1), (0, 0, 2), (0, 1, 0)],
                                                  {(0, 1, 0): 1, (0, 0, 2): 1, (0, 0, 1): 2, (0, 0, 0): 2}))

    def test_each_is_a_new_one(self):
        pieces, order = row_of(2)
        far, ranks = all_far(pieces, order)
        right = (list(far), dict(ranks))
        far.append(1)
        ranks.clear()
        self.assertEqual(all_far(pieces, order), right)
        addresses, length = all_laid(pieces, order)
        before = dict(addresses)
        addresses.clear()
        self.assertEqual(all_laid(pieces, order), (before, length))


class AreRanks(unittest.TestCase):
    def test_right_and_wrong_ones(self):
        pieces, order = row_of(3)
        choice = choose(pieces)
        right = {(0, 3, 0): 1, (0, 2, 0): 2, (0, 1, 0): 3, (0, 0, 0): 4}
        self.assertIs(are_ranks(pieces, choice, order, right), True)
        self.assertIs(are_ranks(pieces, choice, order, dict(sorted(right.items()))), True)
        for one in right:
            for rank in (right[one] - 1, right[one] + 1, 0, -1, 5, 10 ** 59, None):
                if rank != right[one]:
                    self.assertIs(are_ranks(pieces, choice, order, {**right, one: rank}), False, (one, rank))
            self.assertIs(are_ranks(pieces, choice, order, {k: r for k, r in right.items() if k != one}), False)
        for more in ((0, 3, 1), (0, 4, 0), (9, 9, 9), (0, 0, 1), (-1, 0, 0)):
            for rank in (1, 5):
                self.assertIs(are_ranks(pieces, choice, order, {**right, more: rank}), False)
        self.assertIs(are_ranks(pieces, choice, order, {}), False)

    def test_truths(self):
        pieces, order = row_of(1)
        choice = choose(pieces)
        self.assertIs(are_ranks(pieces, choice, order, {(0, 1, 0): 1, (0, 0, 0): 2}), True)
        self.assertIs(are_ranks(pieces, choice, order, {(0, 1, 0): True, (0, 0, 0): 2}), False)
        self.assertIs(are_ranks(pieces, choice, order, {(0, True, 0): 1, (0, 0, 0): 2}), False)
        self.assertIs(are_ranks(pieces, choice, order, {(False, 1, 0): 1, (0, 0, 0): 2}), False)

    def test_none(self):
        pieces = [piece(code(("jump", "x")), x=local(0, 0))]
        self.assertIs(are_ranks(pieces, choose(pieces), [(0, 0)], {}), True)
        self.assertIs(are_ranks(pieces, choose(pieces), [(0, 0)], {(0, 0, 0): 1}), False)
        self.assertIs(are_ranks([], {}, [], {}), True)


class Plain:
    """A second reckoning of what points 13 and 14 tell, cell by cell."""

    def __init__(self, pieces, choice, order):
        self.pieces, self.choice, self.order = pieces, choice, order
        self.ones = [(p, s, k) for p, s in [h for h in order if h[0] != "common"]
                     for k, item in enumerate(pieces[p][1][s][3]) if item[0] in ("place", "call", "jump", "when")]

    def cells(self, far):
        """For each holder and offset its address, and the least address behind all."""
        told, at = {}, 1
        for holder in self.order:
            kind, unit, items = ("data", 1, ()) if holder[0] == "common" else self.pieces[holder[0]][1][holder[1]][1:]
            while at % unit:
                at += 1
            if kind == "code":
                for k, item in enumerate(items):
                    told[(holder, k)] = at
                    at += 2 if item[0] == "set" or holder + (k,) in far else 1
                told[(holder, len(items))] = at
            else:
                size = sum([item[1] if item[0] == "room" else 1 for item in items])
                size = self.choice[holder[1]][1] if holder[0] == "common" else size
                told.update({(holder, k): at + k for k in range(700)})
                at += size
        return told, at

    def lacks(self, one, told):
        p, s, k = one
        item = self.pieces[p][1][s][3][k]
        name = item[2] if item[0] in ("place", "when") else item[1]
        more = item[3] if item[0] == "place" else 0
        table = {row[0]: row for row in self.pieces[p][2] if row[1] == "local"}
        value = ("at", p) + table[name][2] if name in table else self.choice[name]
        if value[0] == "none":
            return False
        place = (("common", name), more) if value[0] == "common" else (value[1:3], value[3] + more)
        if item[0] == "place":
            return told[place] > 255
        return not -64 <= told[place] - told[((p, s), k)] <= 63

    def is_enough(self, far):
        told, _ = self.cells(far)
        return not any([self.lacks(one, told) for one in self.ones if one not in far])

    def ranks(self):
        ranks, rank = {}, 0
        while not self.is_enough(ranks):
            rank += 1
            told, _ = self.cells(ranks)
            ranks.update({one: rank for one in self.ones if one not in ranks and self.lacks(one, told)})
        return ranks


def order_by_chance(chance, pieces, choice):
    """An order of some holders by chance, with all that they name."""
    holders = [(p, s) for p, row in enumerate(pieces) for s in range(len(row[1]))]
    holders += [("common", name) for name in choice if choice[name][0] == "common"]
    found = [holder for holder in holders if chance.random() < 0.5]
    for holder in found:
        found += [other for other in leads(pieces, choice, holder) if other not in found]
    chance.shuffle(found)
    return sorted(found, key=lambda h: h[0] == "common" or pieces[h[0]][1][h[1]][1] != "code")


class ByChance(unittest.TestCase):
    def test_each_is_as_told(self):
        chance = random.Random(13)
        seen = {}
        for _ in range(1200):
            pieces = draw_pieces(chance, chance.randint(1, 4), chance.choice([5, 40, 90, 150]))
            choice = choose(pieces)
            order = order_by_chance(chance, pieces, choice)
            plain = Plain(pieces, choice, order)
            right = plain.ranks()
            far, ranks = far_ones(pieces, choice, order)
            self.assertEqual((far, ranks), (sorted(right), right))
            self.assertIs(are_ranks(pieces, choice, order, right), True)
            some = chance.sample(plain.ones, chance.randint(0, len(plain.ones)))
            for row in (some, far, []):
                told, end = plain.cells(row)
                self.assertEqual(laid(pieces, choice, order, row), ({h: told[(h, 0)] for h in order}, end))
            seen[max(right.values(), default=0)] = True
        self.assertGreater(max(seen), 3)

    def test_the_least_list(self):
        """Of all lists with which each near one has what it needs each one has all of the list that is told."""
        chance = random.Random(14)
        many = 0
        while many < 60:
            words = [("jump", "x"), ("when", 0, "y"), ("place", 0, "z", 0), ("call", "w")]
            items = [chance.choice(words) if chance.random() < 0.06 else ("set", 0, 1) for _ in range(110)]
            row = code(*items), code(*sets(30)), data(("cell", 1), unit=4)
            pieces = [piece(*row, w=local(1, 0), x=local(0, chance.randint(0, 110)), y=local(0, 40), z=local(2, 0))]
            choice, order = choose(pieces), [(0, 0), (0, 1), (0, 2)]
            plain = Plain(pieces, choice, order)
            if not 3 <= len(plain.ones) <= 8:
                continue
            many += 1
            far, _ = far_ones(pieces, choice, order)
            good = [set(row) for size in range(len(plain.ones) + 1) for row in combinations(plain.ones, size)
                    if plain.is_enough(row)]
            self.assertIn(set(far), good)
            self.assertTrue(all([set(far) <= row for row in good]))


class HandedIn(unittest.TestCase):
    def test_nothing_is_changed(self):
        pieces, order = row_of(2)
        choice, far, ranks = choose(pieces), [(0, 1, 0)], {(0, 2, 0): 1}
        before = copy.deepcopy((pieces, order, choice, far, ranks))
        laid(pieces, choice, order, far)
        far_ones(pieces, choice, order)
        are_ranks(pieces, choice, order, ranks)
        self.assertEqual((pieces, order, choice, far, ranks), before)


class Greatest(unittest.TestCase):
    def test_thirty_pieces_of_eight_sections(self):
        items = [("jump", "a" + str(k // 30)) for k in range(200)]
        symbols = {"a" + str(k): local(k, 199) for k in range(8)}
        pieces = [("p" + str(p),) + piece(*[code(*items) for _ in range(8)], **symbols)[1:] for p in range(30)]
        order = [(p, s) for p in range(30) for s in range(8)]
        far, ranks = all_far(pieces, order)
        self.assertEqual(far, sorted(ranks))
        self.assertGreater(len(far), 30000)
        self.assertEqual(all_laid(pieces, order, *far)[1], 48001 + len(far))


class Interface(unittest.TestCase):
    def test_arguments_by_name(self):
        pieces, order = row_of(0)
        choice = choose(pieces)
        self.assertEqual(laid(far=[(0, 0, 0)], order=order, choice=choice, pieces=pieces),
                         ({(0, 0): 1, (0, 1): 66}, 66))
        self.assertEqual(far_ones(order=order, choice=choice, pieces=pieces), ([(0, 0, 0)], {(0, 0, 0): 1}))
        self.assertIs(are_ranks(ranks={(0, 0, 0): 1}, order=order, choice=choice, pieces=pieces), True)

    def test_kinds_of_values(self):
        pieces, order = row_of(1)
        told, far = all_laid(pieces, order), all_far(pieces, order)
        self.assertEqual([told.__class__, told[0].__class__, told[1].__class__], [tuple, dict, int])
        self.assertEqual([far.__class__, far[0].__class__, far[1].__class__], [tuple, list, dict])

    def test_each_is_defined_in_its_file(self):
        for word in ("laid", "far_ones", "are_ranks"):
            self.assertEqual(getattr(lengths, word).__module__, "weldmill.lengths")


if __name__ == "__main__":
    unittest.main()
