"""The promise over the whole program: points [3] and [19]."""

import random
import unittest

from chance import draw_pieces
from plain import PlainImage, is_code, right_image

from weldmill.checker import is_right
from weldmill.choice import choose
from weldmill.errors import TooGreat
from weldmill.images import Image, link
from weldmill.leaving import kept
from weldmill.machine import run_image, state_of_image
from weldmill.names import run_by_names, state_by_names
from weldmill.texts import read

# A row in data is turned by way of a call and told, then code is entered by way of a table; a common keeps a count.
TURN = read("""
piece main
section text code 1
place 0 row 0
place 1 row 5
call turn          ; turns the row between both
place 0 row 0
set 2 6
load 3 0 0         ; next
tell 3
set 3 1
add 0 3
less 2 3
when 2 next
place 4 table 0
load 5 4 1
enter 5
place 4 table 0
load 5 4 2
tell 5             ; a place in code
place 4 table 2
tell 4
place 5 count 0
load 6 5 0
tell 6
halt
section unused data 8
cell 1
section more code 1
set 7 77
tell 7
back
symbol far strong 2 0
symbol next local 0 5
symbol start strong 0 0
""")
PARTS = read("""
piece parts
section turn code 1
copy 2 1
less 2 0
when 2 go
back
load 2 0 0         ; go
load 3 1 0
store 2 1 0
store 3 0 0
place 4 count 0
load 5 4 0
set 6 1
add 5 6
store 5 4 0
add 0 6
less 1 6
copy 7 1
less 7 0
add 7 6
when 7 turn
back
section rows data 4
cell 11
cell -7
cell 300
at count 1
at void 5
cell 2
section table data 2
at row 3
at far 0
at turn 0
symbol count common 2
symbol go local 0 4
symbol row strong 1 0
symbol table strong 2 0
symbol turn strong 0 0
symbol void maybe
""")


class Compared:
    """A run by names beside that of an image of the same pieces."""

    def __init__(self, test, pieces, start, image):
        self.test, self.pieces, self.start, self.image = test, pieces, start, image
        self.choice = choose(pieces)
        self.addresses = dict(image.rows)
        far = {}
        for (holder, address) in image.rows:
            if is_code(pieces, holder):
                at = address
                for k, item in enumerate(pieces[holder[0]][1][holder[1]][3]):
                    if image.cells[at] % 32 in (9, 11, 13, 15):
                        far[holder + (k,)] = True
                    at += 2 if item[0] == "set" or holder + (k,) in far else 1
        order = [holder for holder, _ in image.rows]
        shape = PlainImage(pieces, self.choice, order, far)
        # The addresses of items, from the begin of each section on, whatever lies between the sections.
        self.marks = {h: [m - shape.marks[h][0] + self.addresses[h] for m in shape.marks[h]] for h in order}

    def number(self, value):
        """The value as the machine has it."""
        if isinstance(value, int):
            return value
        _, holder, offset = value
        return self.marks[holder][offset] if is_code(self.pieces, holder) else self.addresses[holder] + offset

    def numbers(self, values):
        return [self.number(value) for value in values]

    def at(self, most):
        """Compares what both tell behind so many steps; whether the run by names goes so far."""
        tells, steps, how = run_by_names(self.pieces, self.choice, self.start, most=most)
        if how not in ("on", "halt"):
            return False
        self.test.assertEqual(run_image(self.image, most=most), (self.numbers(tells), steps, how))
        here, registers, pile, memory = state_by_names(self.pieces, self.choice, self.start, most=most)
        at, own, own_pile, cells = state_of_image(self.image, most=most)
        self.test.assertEqual((at, own, own_pile), (self.number(here), self.numbers(registers), self.numbers(pile)))
        for holder, values in memory.items():
            if holder in self.addresses:
                address = self.addresses[holder]
                self.test.assertEqual(cells[address:address + len(values)], self.numbers(values))
        return True

    def all(self, most):
        """Compares behind each number of steps up to so many, as long as there is no fault; tells how many."""
        done = 0
        while done <= most and self.at(done):
            done += 1
        return done


class ByHand(unittest.TestCase):
    PIECES = [TURN, PARTS]

    def test_what_is_told(self):
        image = link(self.PIECES, "start")
        choice = choose(self.PIECES)
        tells, steps, how = run_by_names(self.PIECES, choice, "start")
        self.assertEqual(tells, [2, 5, ("at", ("common", "count"), 1), 300, -7, 11, 77, ("at", (1, 0), 0),
                                 ("at", (1, 2), 2), 3])
        self.assertEqual(how, "halt")
        rows = dict(image.rows)
        count = rows[("common", "count")]
        self.assertEqual(run_image(image), ([2, 5, count + 1, 300, -7, 11, 77, rows[(1, 0)], rows[(1, 2)] + 2, 3],
                                            steps, "halt"))
        self.assertNotIn((0, 1), rows)

    def test_step_by_step(self):
        chance = random.Random(3)
        choice = choose(self.PIECES)
        images = [link(self.PIECES, "start", leave=leave) for leave in (False, True)]
        for _ in range(6):
            plain = right_image(chance, self.PIECES, choice, "start")
            images.append(Image(plain.cells(), plain.address(((0, 0), 0)), plain.rows))
        self.assertGreater(len(set([repr(image.cells) for image in images])), 4)
        for image in images:
            self.assertIs(is_right(self.PIECES, "start", image), True)
            compared = Compared(self, self.PIECES, "start", image)
            self.assertEqual(compared.all(160), 161)
            self.assertIs(compared.at(3000), True)

    def test_long_runs(self):
        """Three thousand steps, of which none is a halt, and a pile of two hundred."""
        text = read("piece p\nsection c code 1\nset 1 199\nset 2 1\ncall f\njump last\nwhen 1 more\nback\nless 1 2\n"
                    "call f\nback\nadd 3 2\ntell 3\njump last\nsymbol f local 0 4\nsymbol last local 0 9\n"
                    "symbol more local 0 6\nsymbol start strong 0 0\n")
        compared = Compared(self, [text], "start", link([text], "start"))
        self.assertEqual(len(state_by_names([text], choose([text]), "start", most=600)[2]), 200)
        for most in (0, 1, 599, 600, 601, 700, 1400, 2999, 3000):
            self.assertIs(compared.at(most), True, most)

    def test_far_and_near_ones_run_alike(self):
        """A loop over so many cells that its jump, its call and its place must be far."""
        for many in (20, 61, 62, 63, 64, 90, 130):
            items = (("place", 0, "last", 1), ("set", 1, 3)) + (("copy", 2, 1),) * many
            items += (("set", 2, 1), ("less", 1, 2), ("tell", 1), ("call", "sub"), ("when", 1, "again"), ("halt",))
            sections = (("c", "code", 1, items),
                        ("e", "code", 1, (("copy", 3, 0),) * many + (("load", 4, 0, -1), ("back",))),
                        ("d", "data", 8, (("room", 3), ("cell", 4))))
            symbols = (("again", "local", (0, 2)), ("last", "local", (2, 3)), ("start", "strong", (0, 0)),
                       ("sub", "local", (1, 0)))
            pieces = [("p", sections, symbols)]
            compared = Compared(self, pieces, "start", link(pieces, "start"))
            for most in list(range(0, 40)) + [many + 10, 3 * many, 3000]:
                self.assertIs(compared.at(most), True)
            self.assertEqual(run_image(link(pieces, "start"))[0], [2, 1, 0])


class ByChance(unittest.TestCase):
    def test_each_image_that_is_let_by(self):
        chance = random.Random(19)
        steps = 0
        for _ in range(700):
            pieces = draw_pieces(chance, chance.randint(1, 4), chance.choice([3, 6, 12, 90]))
            choice = choose(pieces)
            place = choice["start"]
            plain = right_image(chance, pieces, choice, "start")
            theirs = Image(plain.cells(chance.randint(0, 3)), plain.address((place[1:3], place[3])), plain.rows)
            names = [name for name in sorted(choice) if choice[name][0] != "none"]
            keep = tuple(chance.sample(names, chance.randint(0, min(2, len(names)))))
            for image in (theirs, link(pieces, "start"), link(pieces, "start", leave=False),
                          link(pieces, "start", keep=keep)):
                self.assertIs(is_right(pieces, "start", image), True)
                compared = Compared(self, pieces, "start", image)
                steps += compared.all(25)
                compared.at(3000)
        self.assertGreater(steps, 15000)

    def test_each_spoilt_image_that_is_let_by(self):
        """Cells, addresses and rows by chance: the few that are right run as the names do."""
        chance = random.Random(23)
        right = 0
        for _ in range(4000):
            pieces = draw_pieces(chance, 1, chance.choice([2, 4]))
            image = link(pieces, "start", leave=False)
            cells, start, rows = list(image.cells), image.start, list(image.rows)
            for _ in range(chance.choice([1, 1, 2])):
                k, row = chance.randrange(len(cells)), chance.randrange(len(rows))
                way = chance.randrange(5)
                if way == 0:
                    cells.insert(chance.choice([k, len(cells)]), 0)
                elif way == 1:
                    cells[k] += chance.choice([1, -1, 2048, 32])
                elif way == 2 and len(rows) > 1:
                    del rows[row]
                elif way == 3:
                    rows[row] = (rows[row][0], rows[row][1] + chance.choice([1, 2, 4, -1]))
                else:
                    rows = rows[:row] + rows[row:][::-1]
            other = Image(cells, start, rows)
            if is_right(pieces, "start", other):
                right += 1
                Compared(self, pieces, "start", other).all(12)
        self.assertGreater(right, 300)

    def test_of_its_order_none_is_shorter(self):
        chance = random.Random(24)
        longer = 0
        for _ in range(500):
            pieces = draw_pieces(chance, chance.randint(1, 3), chance.choice([5, 30, 90]))
            choice = choose(pieces)
            image = link(pieces, "start", leave=chance.random() < 0.5)
            order = [holder for holder, _ in image.rows]
            ones = [h + (k,) for h in order if is_code(pieces, h)
                    for k in range(len(pieces[h[0]][1][h[1]][3]))]
            for _ in range(4):
                far = {one: True for one in ones if chance.random() < chance.choice([0, 0.05, 0.3])}
                gaps = {holder: 1 for holder in order if chance.random() < 0.05}
                plain = PlainImage(pieces, choice, order, far, gaps)
                place = choice["start"]
                other = Image(plain.cells(), plain.address((place[1:3], place[3])), plain.rows)
                right = is_right(pieces, "start", other)
                self.assertIs(right, not plain.lacking())
                if right:
                    self.assertGreaterEqual(len(other), len(image))
                    longer += len(other) > len(image)
        self.assertGreater(longer, 300)

    def test_what_is_left_out_changes_nothing(self):
        """Both runs tell the same, a place by its own image's address, whatever is left out and kept."""
        chance = random.Random(25)
        fewer = 0
        for _ in range(400):
            pieces = draw_pieces(chance, chance.randint(2, 4), chance.choice([3, 6, 12]))
            choice = choose(pieces)
            whole, less = link(pieces, "start", leave=False), link(pieces, "start")
            self.assertEqual(sorted(holder for holder, _ in less.rows if holder[0] != "common"),
                             [holder for holder in kept(pieces, choice, "start") if holder[0] != "common"])
            _, steps, how = run_by_names(pieces, choice, "start", most=500)
            ran, ran_less = run_image(whole, most=steps), run_image(less, most=steps)
            self.assertEqual(ran[1:], ran_less[1:])
            self.assertEqual(len(ran[0]), len(ran_less[0]))
            Compared(self, pieces, "start", whole).at(steps)
            Compared(self, pieces, "start", less).at(steps)
            fewer += len(less.rows) < len(whole.rows)
        self.assertGreater(fewer, 200)


class Own(unittest.TestCase):
    def test_each_own_image_is_let_by(self):
        chance = random.Random(26)
        refused = 0
        for _ in range(400):
            pieces = draw_pieces(chance, chance.randint(1, 6), chance.choice([3, 20, 120, 200]))
            starts = [name for name, told in choose(pieces).items() if told[0] == "at" and is_code(pieces, told[1:3])]
            for start in starts[:4]:
                for leave in (False, True):
                    try:
                        image = link(pieces, start, leave=leave, most=900)
                    except TooGreat:
                        refused += 1
                        image = link(pieces, start, leave=leave)
                    self.assertIs(is_right(pieces, start, image), True)
        self.assertGreater(refused, 20)


if __name__ == "__main__":
    unittest.main()
