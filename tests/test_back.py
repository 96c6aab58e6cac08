"""Back to names: points [2] and [20]."""

import copy
import random
import unittest

from chance import draw_pieces
from plain import is_code, right_image

from weldmill import back
from weldmill.back import changed, listed, where
from weldmill.choice import choose
from weldmill.images import Image, link


def piece(name, *sections, **symbols):
    return (name, sections, tuple(sorted([(key,) + row for key, row in symbols.items()])))


def at(section, offset, binding="strong"):
    return (binding, (section, offset))


# Laid, all of it: text 1 to 5, stub 6, sub 7 to 11, bare 12, gap 12 to 13, words 16 to 21, tail 24, lone 24 to 25,
# pad 26 to 28.
MAIN = piece("main", ("text", "code", 1, (("place", 0, "table", 1), ("call", "sub"), ("set", 1, -1), ("halt",))),
             ("gap", "data", 1, (("cell", 7), ("room", 0), ("cell", 8))), ("stub", "code", 1, (("jump", "main"),)),
             main=at(0, 0), mid=at(0, 3), ends=at(0, 4, "weak"), here=at(1, 2, "local"), table=at(1, 1, "weak"))
MORE = piece("more", ("words", "data", 4, (("cell", -5), ("room", 2), ("at", "sub", 0), ("at", "pad", 2),
                                           ("at", "void", 9))),
             ("sub", "code", 1, (("set", 2, 300), ("when", 2, "out"), ("jump", "void"), ("back",))),
             ("bare", "code", 1, ()), ("tail", "data", 8, ()),
             lone=("common", 2), pad=("common", 3), sub=at(1, 0), table=at(0, 1), void=("maybe", None),
             out=at(1, 3, "local"), bare=at(2, 0), tail=at(3, 0, "local"), last=at(0, 6, "local"),
             main=at(1, 4, "local"))
PIECES = [MAIN, MORE]
ALL = link(PIECES, "main", leave=False)
SOME = link(PIECES, "main")


class Where(unittest.TestCase):
    def test_the_rows(self):
        self.assertEqual(ALL.rows, [((0, 0), 1), ((0, 2), 6), ((1, 1), 7), ((1, 2), 12), ((0, 1), 12), ((1, 0), 16),
                                    ((1, 3), 24), (("common", "lone"), 24), (("common", "pad"), 26)])
        self.assertEqual(SOME.rows, [((0, 0), 1), ((1, 1), 6), ((1, 0), 12), (("common", "pad"), 18)])
        self.assertEqual((len(ALL), len(SOME)), (29, 21))

    def test_each_address(self):
        right = [None, ("main", "text", 0), ("main", "text", 1), ("main", "text", 2), None, ("main", "text", 3),
                 ("main", "stub", 0), ("more", "sub", 0), None, ("more", "sub", 1), ("more", "sub", 2),
                 ("more", "sub", 3),
                 ("main", "gap", 0), ("main", "gap", 1), None, None, ("more", "words", 0), ("more", "words", 1),
                 ("more", "words", 2), ("more", "words", 3), ("more", "words", 4), ("more", "words", 5), None, None,
                 ("common", "lone", 0), ("common", "lone", 1), ("common", "pad", 0), ("common", "pad", 1),
                 ("common", "pad", 2)]
        self.assertEqual([where(ALL, PIECES, address) for address in range(29)], right)

    def test_outside(self):
        for address in (0, -1, -2, -29, 29, 30, 10 ** 50, -10 ** 50):
            self.assertIsNone(where(ALL, PIECES, address), address)

    def test_left_out_ones(self):
        right = [None, ("main", "text", 0), ("main", "text", 1), ("main", "text", 2), None, ("main", "text", 3),
                 ("more", "sub", 0), None, ("more", "sub", 1), ("more", "sub", 2), ("more", "sub", 3), None,
                 ("more", "words", 0), ("more", "words", 1), ("more", "words", 2), ("more", "words", 3),
                 ("more", "words", 4), ("more", "words", 5), ("common", "pad", 0), ("common", "pad", 1),
                 ("common", "pad", 2), None]
        self.assertEqual([where(SOME, PIECES, address) for address in range(22)], right)

    def test_far_forms(self):
        pieces = [piece("p", ("c", "code", 1, (("jump", "go"), ("place", 1, "go", 0), ("halt",))), go=at(0, 0))]
        cells = [0, 0, 13, 0, 9, 2, 0, 0]
        told = [where(Image(cells, 2, [((0, 0), 2)]), pieces, address) for address in range(9)]
        self.assertEqual(told, [None, None, ("p", "c", 0), None, ("p", "c", 1), None, ("p", "c", 2), None, None])

    def test_sections_of_one_name(self):
        pieces = [piece("p", ("c", "code", 1, (("halt",),)), ("c", "code", 1, (("tell", 0),)), go=at(0, 0))]
        image = link(pieces, "go", leave=False)
        self.assertEqual([where(image, pieces, k) for k in (1, 2)], [("p", "c", 0), ("p", "c", 0)])

    def test_kinds_of_values(self):
        self.assertEqual([where(ALL, PIECES, 2).__class__, where(ALL, PIECES, 26).__class__], [tuple, tuple])


class Listed(unittest.TestCase):
    def test_all(self):
        self.assertEqual(listed(ALL, PIECES), [
            (1, "main", "main"), (5, "main", "mid"), (6, "main", "ends"), (7, "more", "sub"), (11, "more", "out"),
            (12, "more", "bare"), (12, "more", "main"), (13, "main", "table"), (14, "main", "here"),
            (17, "more", "table"),
            (22, "more", "last"), (24, "", "lone"), (24, "more", "tail"), (26, "", "pad")])

    def test_left_out_ones(self):
        self.assertEqual(listed(SOME, PIECES), [
            (1, "main", "main"), (5, "main", "mid"), (6, "main", "ends"), (6, "more", "sub"), (10, "more", "out"),
            (11, "more", "main"), (13, "more", "table"), (18, "", "pad"), (18, "more", "last")])

    def test_weak_ones_that_are_not_chosen(self):
        pieces = [piece("p" + str(k), ("c", "code", 1, (("halt",),) * (k + 1)), go=at(0, k, "weak")) for k in range(3)]
        image = link(pieces, "go", leave=False)
        self.assertEqual(listed(image, pieces), [(1, "p0", "go"), (3, "p1", "go"), (6, "p2", "go")])
        self.assertEqual(listed(link(pieces, "go"), pieces), [(1, "p0", "go")])

    def test_a_common_beside_a_strong_one(self):
        pieces = [piece("p", ("c", "code", 1, (("place", 0, "x", 0),)), ("d", "data", 1, (("cell", 1),)), go=at(0, 0),
                        x=at(1, 0)), piece("q", x=("common", 4))]
        self.assertEqual(listed(link(pieces, "go"), pieces), [(1, "p", "go"), (2, "p", "x")])

    def test_none(self):
        pieces = [piece("p", ("c", "code", 1, ()), go=at(0, 0))]
        self.assertEqual(listed(Image([0], 1, [((0, 0), 1)]), pieces), [(1, "p", "go")])


class Changed(unittest.TestCase):
    def test_alike(self):
        self.assertEqual(changed(ALL, ALL), [])
        self.assertEqual(changed(Image([], 0, []), Image([], 5, [((0, 0), 1)])), [])
        self.assertEqual(changed(Image([0, 4], 0, []), Image([0, 4], 1, [((0, 0), 1)])), [])

    def test_unlike_cells(self):
        one, other = Image([0, 1, 2, 3], 1, []), Image([0, 5, 2, -3], 1, [])
        self.assertEqual(changed(one, other), [(1, 1, 5), (3, 3, -3)])
        self.assertEqual(changed(other, one), [(1, 5, 1), (3, -3, 3)])

    def test_unlike_lengths(self):
        short, long = Image([0, 1], 1, []), Image([0, 2, 0, 7], 1, [])
        self.assertEqual(changed(short, long), [(1, 1, 2), (2, None, 0), (3, None, 7)])
        self.assertEqual(changed(long, short), [(1, 2, 1), (2, 0, None), (3, 7, None)])
        self.assertEqual(changed(Image([], 0, []), Image([0, 0], 0, [])), [(0, None, 0), (1, None, 0)])
        self.assertEqual(changed(Image([0, 0], 0, []), Image([], 0, [])), [(0, 0, None), (1, 0, None)])

    def test_done_to_the_first_it_makes_the_other(self):
        chance = random.Random(20)
        for _ in range(300):
            one, other = [Image([chance.randint(0, 2) for _ in range(chance.randint(0, 8))], 1, []) for _ in range(2)]
            rows = changed(one, other)
            self.assertEqual(rows, sorted(rows, key=lambda row: row[0]))
            cells = dict(enumerate(one.cells))
            for address, old, new in rows:
                self.assertEqual(cells.pop(address, None), old)
                self.assertNotEqual(old, new)
                if new is not None:
                    cells[address] = new
            self.assertEqual([cells[k] for k in sorted(cells)], other.cells)
            self.assertEqual(sorted(cells), list(range(len(other))))

    def test_between_links(self):
        again = [MAIN, (MORE[0], (MORE[1][0][:3] + ((("cell", -6),) + MORE[1][0][3][1:],),) + MORE[1][1:], MORE[2])]
        self.assertEqual(changed(ALL, link(again, "main", leave=False)), [(16, -5, -6)])


class ByChance(unittest.TestCase):
    def test_each_is_as_told(self):
        chance = random.Random(21)
        for _ in range(400):
            pieces = draw_pieces(chance, chance.randint(1, 4), chance.choice([2, 5, 12]))
            choice = choose(pieces)
            plain = right_image(chance, pieces, choice, "start")
            place = choice["start"]
            image = Image(plain.cells(2), plain.address((place[1:3], place[3])), plain.rows)
            names = {}
            for holder, _ in plain.rows:
                own = holder if holder[0] == "common" else (pieces[holder[0]][0], pieces[holder[0]][1][holder[1]][0])
                first, last = plain.marks[holder][0], plain.marks[holder][-1]
                begins = plain.marks[holder][:-1] if is_code(pieces, holder) else range(first, last)
                names.update({address: own + (offset,) for offset, address in enumerate(begins)})
            for address in range(-1, len(image) + 2):
                self.assertEqual(where(image, pieces, address), names.get(address))
            rows = [(plain.marks[holder][0], "", holder[1]) for holder, _ in plain.rows if holder[0] == "common"]
            for number, (own, _, symbols) in enumerate(pieces):
                rows += [(plain.address(((number, row[2][0]), row[2][1])), own, row[0]) for row in symbols
                         if row[1] in ("strong", "weak", "local") and (number, row[2][0]) in plain.marks]
            self.assertEqual(listed(image, pieces), sorted(rows))


class HandedIn(unittest.TestCase):
    def test_nothing_is_changed(self):
        before = copy.deepcopy((PIECES, ALL.cells, ALL.start, ALL.rows, SOME.cells, SOME.rows))
        where(ALL, PIECES, 5)
        listed(ALL, PIECES)
        changed(ALL, SOME)
        self.assertEqual((PIECES, ALL.cells, ALL.start, ALL.rows, SOME.cells, SOME.rows), before)

    def test_each_list_is_a_new_one(self):
        for tell in (lambda: listed(ALL, PIECES), lambda: changed(ALL, SOME)):
            first = tell()
            right = list(first)
            first.append(1)
            self.assertEqual(tell(), right)


class Interface(unittest.TestCase):
    def test_arguments_by_name(self):
        self.assertEqual(where(address=6, pieces=PIECES, image=ALL), ("main", "stub", 0))
        self.assertEqual(listed(pieces=PIECES, image=SOME)[0], (1, "main", "main"))
        self.assertEqual(changed(other=Image([1], 0, []), image=Image([0], 0, [])), [(0, 0, 1)])

    def test_each_is_defined_in_its_file(self):
        for word in ("where", "listed", "changed"):
            self.assertEqual(getattr(back, word).__module__, "weldmill.back")


if __name__ == "__main__":
    unittest.main()
