"""The checker: points [2] and [18]."""

import copy
import random
import unittest

from chance import draw_pieces
from plain import plain_right, right_image

from weldmill import checker
from weldmill.checker import is_right
from weldmill.choice import choose
from weldmill.errors import Doubled, Missing, Skewed
from weldmill.images import Image, encode, link


def piece(name, *sections, **symbols):
    return (name, sections, tuple(sorted([(key,) + row for key, row in symbols.items()])))


def code(*items):
    return ("c", "code", 1, items)


def data(*items, unit=1):
    return ("d", "data", unit, items)


def at(section, offset, binding="strong"):
    return (binding, (section, offset))


# Section 0 of "main" names section 0 of "more", its common and section 1; sections 2 of both and 3 are named by none.
MAIN = piece("main", code(("place", 0, "table", 1), ("call", "sub"), ("load", 1, 0, -1), ("tell", 1), ("halt",)),
             data(("cell", 7)), code(("jump", "main")), main=at(0, 0), mid=at(0, 3), ends=at(0, 5))
MORE = piece("more", data(("cell", -5), ("room", 2), ("at", "sub", 0), ("at", "pad", 2), ("at", "void", 9), unit=4),
             code(("set", 2, 300), ("when", 2, "out"), ("jump", "void"), ("back",)), code(), data(unit=8),
             lone=("common", 2), pad=("common", 3), sub=at(1, 0), table=at(0, 0), void=("maybe", None),
             out=at(1, 3, "local"))
PIECES = [MAIN, MORE]
CELLS = [0, 8 + 2048 * 13, 10 + 2048 * 132, 6 + 32 + 2048 * 127, 17 + 32, 0,
         1 + 64, 300, 14 + 64 + 2048 * 130, 12 + 2048 * 128, 16, 0, -5, 0, 0, 6, 20, 9, 0, 0, 0]
ROWS = [((0, 0), 1), ((1, 1), 6), ((1, 0), 12), (("common", "pad"), 18)]


def right(cells=CELLS, start=1, rows=ROWS, name="main", pieces=PIECES):
    return is_right(pieces, name, Image(cells, start, rows))


class Right(unittest.TestCase):
    def test_the_linkers_own(self):
        for keep in ((), ("lone",), ("lone", "ends", "sub")):
            for leave in (False, True):
                for start in ("main", "mid", "ends", "sub"):
                    image = link(PIECES, start, keep=keep, leave=leave)
                    self.assertIs(is_right(PIECES, start, image), True)
        self.assertIs(right(), True)

    def test_noughts_behind(self):
        for many in (1, 2, 50):
            self.assertIs(right(CELLS + [0] * many), True)

    def test_noughts_between(self):
        cells = [0, 0, 0, 8 + 2048 * 17, 10 + 2048 * 133] + CELLS[3:6] + [0] + CELLS[6:11] + [0, 0, -5, 0, 0, 9, 25, 9]
        rows = [((0, 0), 3), ((1, 1), 9), ((1, 0), 16), (("common", "pad"), 23)]
        self.assertIs(right(cells + [0] * 4, 3, rows), True)
        self.assertIs(right(cells + [0] * 4, 1, rows), False)
        for k in (0, 1, 2, 8, 14, 15, 22):
            self.assertEqual((cells + [0])[k], 0)
            self.assertIs(right((cells + [0] * 4)[:k] + [1] + (cells + [0] * 4)[k + 1:], 3, rows), False)

    def test_far_forms_where_near_ones_would_do(self):
        cells = [0, 9, 17, 11, 5] + CELLS[3:6] + [65, 300, 15 + 64, 4, 13, 0, 16, 0, -5, 0, 0, 8, 24, 9, 0, 0, 0]
        rows = [((0, 0), 1), ((1, 1), 8), ((1, 0), 16), (("common", "pad"), 22)]
        self.assertIs(right(cells, 1, rows), True)
        for k in (2, 4, 11, 13):
            self.assertIs(right(cells[:k] + [cells[k] + 1] + cells[k + 1:], 1, rows), False)

    def test_another_order(self):
        cells = [0] + CELLS[6:11] + [8 + 2048 * 17, 10 + 2048 * 122] + CELLS[3:6]
        cells += [0, 0, 0, 0, 0, -5, 0, 0, 1, 14, 9]
        rows = [((1, 1), 1), ((0, 0), 6), (("common", "pad"), 12), ((1, 0), 16)]
        self.assertIs(right(cells, 6, rows), True)
        self.assertIs(right(cells, 6, rows[:2] + rows[3:] + rows[2:3]), False)

    def test_more_rows_than_are_named(self):
        for more in (("common", "lone"), (0, 1)):
            cells = CELLS + ([7] if more == (0, 1) else [0, 0])
            self.assertIs(right(cells, 1, ROWS + [(more, 21)]), True)
        self.assertIs(right(CELLS, 1, ROWS[:2] + [((1, 2), 11)] + ROWS[2:]), True)
        self.assertIs(right(CELLS + [0] * 3, 1, ROWS + [((1, 3), 24)]), True)

    def test_empty_sections(self):
        for address in (11, 12):
            self.assertIs(right(rows=ROWS[:2] + [((1, 2), address)] + ROWS[2:]), True)
        for address in (10, 13, 5, 0, -1, 1):
            self.assertIs(right(rows=ROWS[:2] + [((1, 2), address)] + ROWS[2:]), False)
        self.assertIs(right(rows=[((1, 2), 1)] + ROWS), True)
        self.assertIs(right(rows=[((1, 2), 0)] + ROWS), False)
        self.assertIs(right(rows=ROWS[:1] + [((1, 2), 6)] + ROWS[1:]), True)
        self.assertIs(right(CELLS + [0] * 3, rows=ROWS + [((1, 3), 24)]), True)
        self.assertIs(right(CELLS + [0] * 2, rows=ROWS + [((1, 3), 24)]), False)
        self.assertIs(right(CELLS + [0] * 3, rows=ROWS + [((1, 3), 22)]), False)
        self.assertIs(right(CELLS + [0] * 3, rows=ROWS + [((1, 3), 16)]), False)
        self.assertIs(right(rows=ROWS[:2] + [((1, 3), 16)] + ROWS[2:]), False)

    def test_a_start_in_an_empty_section(self):
        pieces = [piece("p", code(), data(unit=4), go=at(0, 0))]
        for cells, start, rows, told in (([0], 1, [((0, 0), 1)], True), ([0, 0], 1, [((0, 0), 1)], True),
                                         ([0, 0], 2, [((0, 0), 2)], True), ([0], 2, [((0, 0), 2)], False),
                                         ([], 0, [((0, 0), 0)], False), ([], 1, [((0, 0), 1)], False),
                                         ([], 1, [], False),
                                         ([0], 1, [], False), ([], 0, [], False), ([0], 0, [((0, 0), 0)], False),
                                         ([0] * 4, 1, [((0, 0), 1), ((0, 1), 4)], True),
                                         ([0] * 3, 1, [((0, 0), 1), ((0, 1), 4)], False),
                                         ([1], 1, [((0, 0), 1)], False), ([0, 1], 1, [((0, 0), 1)], False)):
            self.assertIs(right(cells, start, rows, "go", pieces), told, (cells, start, rows))

    def test_the_start(self):
        self.assertIs(right(start=4, name="mid"), True)
        self.assertIs(right(start=6, name="ends"), True)
        self.assertIs(right(start=6, name="sub"), True)
        for start in (0, 2, 3, 5, -1, 6, 10 ** 50, -20):
            self.assertIs(right(start=start), False)
        for start in (1, 3, 5, 7):
            self.assertIs(right(start=start, name="ends"), False)
            self.assertIs(right(start=start, name="sub"), False)


class Wrong(unittest.TestCase):
    def test_each_cell(self):
        for k in range(len(CELLS)):
            for other in (CELLS[k] + 1, CELLS[k] - 1, -CELLS[k] or 5, CELLS[k] + 32, CELLS[k] + 2048, 10 ** 50,
                          -10 ** 50):
                cells = CELLS[:k] + [other] + CELLS[k + 1:]
                self.assertIs(right(cells), False, (k, other))
            self.assertIs(right(CELLS[:k] + CELLS[k + 1:]), False)
            self.assertIs(right(CELLS[:k] + [0] + CELLS[k:]), k in (18, 19, 20))
            self.assertIs(right(CELLS[:k]), False)

    def test_a_one_where_a_nought_must_stand(self):
        for k in (0, 11, 13, 14, 18, 19, 20):
            self.assertEqual(CELLS[k], 0)
            self.assertIs(right(CELLS[:k] + [1] + CELLS[k + 1:]), False)
        for k in range(3):
            self.assertIs(right(CELLS + [0] * k + [1]), False)
            self.assertIs(right(CELLS + [0] * k + [1, 0]), False)

    def test_each_address(self):
        for k, (holder, address) in enumerate(ROWS):
            for other in (address + 1, address - 1, 0, -1, -address, address + 4, address - 4, 10 ** 50, -10 ** 50, 21,
                          22):
                self.assertIs(right(rows=ROWS[:k] + [(holder, other)] + ROWS[k + 1:]), False, (holder, other))

    def test_each_row(self):
        for k in range(len(ROWS)):
            self.assertIs(right(rows=ROWS[:k] + ROWS[k + 1:]), False, k)
            self.assertIs(right(rows=ROWS[:k] + [ROWS[k]] + ROWS[k:]), False, k)
            self.assertIs(right(rows=ROWS + [ROWS[k]]), False, k)
            for other in ((0, 3), (2, 0), (-1, 0), (-2, 1), (0, -1), (1, -4), (0, 1), (1, 2), ("common", "lone"),
                          ("common", "zz"), ("common", "sub"), ("common", "void"), ("common", "p"), (0, 10 ** 50)):
                self.assertIs(right(rows=ROWS[:k] + [(other, ROWS[k][1])] + ROWS[k + 1:]), False, (k, other))
        self.assertIs(right(rows=[]), False)

    def test_rows_of_holders_that_there_are_not(self):
        for other in ((0, 3), (2, 0), (-1, 2), (-2, 1), (0, -1), (1, -1), ("common", "zz"), ("common", "sub"),
                      ("common", "void"), ("common", "")):
            for k in (0, 2, 4):
                self.assertIs(right(CELLS + [0] * 9,
                                    rows=ROWS[:k] + [(other, ROWS[k][1] if k < 4 else 24)] + ROWS[k:]), False)

    def test_the_order_of_rows(self):
        for k in range(1, len(ROWS)):
            self.assertIs(right(rows=ROWS[:k - 1] + [ROWS[k], ROWS[k - 1]] + ROWS[k + 1:]), False)
        self.assertIs(right(rows=ROWS[::-1]), False)

    def test_code_behind_data(self):
        pieces = [piece("p", code(("halt",)), data(("cell", 5)), code(("tell", 0)), code(), b=("common", 1),
                        go=at(0, 0))]
        self.assertIs(right([0, 0, 17, 5], 1, [((0, 0), 1), ((0, 2), 2), ((0, 1), 3)], "go", pieces), True)
        self.assertIs(right([0, 0, 5, 17], 1, [((0, 0), 1), ((0, 1), 2), ((0, 2), 3)], "go", pieces), False)
        self.assertIs(right([0, 0, 5, 0], 1, [((0, 0), 1), ((0, 1), 2), ((0, 3), 3)], "go", pieces), False)
        self.assertIs(right([0, 0, 0, 17], 1, [((0, 0), 1), (("common", "b"), 2), ((0, 2), 3)], "go", pieces), False)
        self.assertIs(right([0, 5, 0], 2, [((0, 1), 1), ((0, 0), 2)], "go", pieces), False)
        self.assertIs(right([0, 0, 0, 5], 1, [((0, 0), 1), (("common", "b"), 2), ((0, 1), 3)], "go", pieces), True)

    def test_sections_over_one_another(self):
        pieces = [piece("p", code(("halt",), ("halt",)), code(("halt",)), data(("cell", 0), ("cell", 0)),
                        data(("room", 2)),
                        go=at(0, 0))]
        for rows, told in (([((0, 0), 1), ((0, 1), 3)], True), ([((0, 0), 1), ((0, 1), 2)], False),
                           ([((0, 0), 1), ((0, 1), 1)], False), ([((0, 0), 1), ((0, 2), 3), ((0, 3), 5)], True),
                           ([((0, 0), 1), ((0, 2), 3), ((0, 3), 4)], False), ([((0, 0), 1), ((0, 2), 2)], False),
                           ([((0, 0), 1), ((0, 2), 3), ((0, 3), 3)], False), ([((0, 0), 1), ((0, 3), 5)], True),
                           ([((0, 0), 1), ((0, 3), 6)], False), ([((0, 0), 1), ((0, 1), 7)], False),
                           ([((0, 0), 1), ((0, 1), 6)], True)):
            self.assertIs(right([0] * 7, 1, rows, "go", pieces), told, rows)

    def test_units(self):
        for unit in (1, 2, 4, 8):
            pieces = [piece("p", code(("halt",)), data(("cell", 5), unit=unit), data(unit=unit), go=at(0, 0))]
            for address in range(2, 20):
                cells = [0] * address + [5]
                self.assertIs(right(cells, 1, [((0, 0), 1), ((0, 1), address)], "go", pieces), address % unit == 0)
                self.assertIs(right(cells[:-1] + [0], 1, [((0, 0), 1), ((0, 2), address)], "go", pieces),
                              address % unit == 0)

    def test_near_forms_that_lack(self):
        for many in (60, 61, 62, 63):
            pieces = [piece("p", code(("jump", "x"), *(("tell", 0),) * many), go=at(0, 0), x=at(0, many + 1))]
            near = [0, 12 + 2048 * (129 + many)] + [17] * many
            far = [0, 13, many + 2] + [17] * many
            self.assertIs(right(near, 1, [((0, 0), 1)], "go", pieces), many + 1 <= 63)
            self.assertIs(right(far, 1, [((0, 0), 1)], "go", pieces), True)
        for address in (254, 255, 256, 257):
            pieces = [piece("p", code(("place", 0, "x", 0)), data(("cell", 1)), go=at(0, 0), x=at(1, 0))]
            rows = [((0, 0), 1), ((0, 1), address)]
            gap = [0] * (address - 2)
            self.assertIs(right([0, 8 + 2048 * address] + gap + [1], 1, rows, "go", pieces), address < 256)
            self.assertIs(right([0, 9, address] + gap[1:] + [1], 1, rows, "go", pieces), True)
            self.assertIs(right([0, 9, address + 1] + gap[1:] + [1], 1, rows, "go", pieces), False)

    def test_a_place_beyond_its_holder(self):
        pieces = [piece("p", code(("place", 0, "x", 99)), data(("at", "x", 50)), go=at(0, 0), x=at(1, 1))]
        self.assertIs(right([0, 8 + 2048 * 102, 53], 1, [((0, 0), 1), ((0, 1), 2)], "go", pieces), True)
        self.assertIs(right([0, 8 + 2048 * 101, 53], 1, [((0, 0), 1), ((0, 1), 2)], "go", pieces), False)

    def test_a_two_cell_instruction_at_the_last_cell(self):
        pieces = [piece("p", code(("set", 0, 0)), go=at(0, 0))]
        self.assertIs(right([0, 1, 0], 1, [((0, 0), 1)], "go", pieces), True)
        self.assertIs(right([0, 1], 1, [((0, 0), 1)], "go", pieces), False)

    def test_items_of_like_cells(self):
        """What decodes to another item is wrong, though as long."""
        pieces = [piece("p", code(("set", 0, 3), ("add", 1, 2), ("jump", "go")), go=at(0, 0))]
        good = [0, 1, 3, 3 + 32 + 512, 12 + 2048 * 125]
        self.assertIs(right(good, 1, [((0, 0), 1)], "go", pieces), True)
        for k, cell in ((1, 9), (1, 1 + 32), (2, 4), (3, 3 + 64 + 256), (3, 2 + 32 + 512), (3, 4 + 32 + 512),
                        (4, 10 + 2048 * 125), (4, 14 + 2048 * 125), (4, 12 + 2048 * 126)):
            self.assertIs(right(good[:k] + [cell] + good[k + 1:], 1, [((0, 0), 1)], "go", pieces), False)

    def test_data(self):
        items = (("cell", 3), ("room", 2), ("cell", -3), ("at", "go", 0), ("at", "here", 7))
        pieces = [piece("p", code(("place", 0, "here", 0)), data(*items), go=at(0, 0), here=at(1, 6))]
        cells = [0, 8 + 2048 * 8, 3, 0, 0, -3, 1, 15]
        self.assertIs(right(cells, 1, [((0, 0), 1), ((0, 1), 2)], "go", pieces), True)
        for k in range(2, 8):
            for more in (1, -1):
                bad = cells[:k] + [cells[k] + more] + cells[k + 1:]
                self.assertIs(right(bad, 1, [((0, 0), 1), ((0, 1), 2)], "go", pieces), False)

    def test_truths(self):
        pieces = [piece("p", code(("set", 0, 1), ("set", 1, 0)), data(("cell", 1), ("room", 1)), a=("common", 1),
                        go=at(0, 0))]
        cells, rows = [0, 1, 1, 33, 0, 1, 0, 0], [((0, 0), 1), ((0, 1), 5), (("common", "a"), 7)]
        self.assertIs(right(cells, 1, rows, "go", pieces), True)
        for k, cell in enumerate(cells):
            if cell in (0, 1):
                self.assertIs(right(cells[:k] + [bool(cell)] + cells[k + 1:], 1, rows, "go", pieces), False)
        self.assertIs(right(cells, True, rows, "go", pieces), False)
        self.assertIs(right(cells, 1, [((0, 0), True)] + rows[1:], "go", pieces), False)
        self.assertIs(right(cells, 1, [((0, False), 1)] + rows[1:], "go", pieces), False)
        self.assertIs(right(cells, 1, [((False, 0), 1)] + rows[1:], "go", pieces), False)
        self.assertIs(right(cells, 1, rows[:1] + [((0, True), 5)] + rows[2:], "go", pieces), False)
        self.assertIs(right(cells + [False], 1, rows, "go", pieces), False)


class Refused(unittest.TestCase):
    IMAGES = (Image([], 0, []), Image([0, 0], 1, [((0, 0), 1)]), Image([True], False, [((9, 9), True)]))

    def refusal(self, pieces, start, image):
        try:
            is_right(pieces, start, image)
        except Doubled as refused:
            return (Doubled, refused.name, refused.one, refused.other)
        except (Missing, Skewed) as refused:
            return (refused.__class__, refused.name, refused.piece)
        return None

    def test_by_the_choice(self):
        doubled = [piece("p", code(), go=at(0, 0)), piece("q", code(), go=at(0, 0))]
        missing = [piece("p", code(("jump", "x")), go=at(0, 0))]
        skewed = [piece("p", code(("place", 0, "go", 1)), go=at(0, 0))]
        for image in self.IMAGES:
            for start in ("go", "zz"):
                self.assertEqual(self.refusal(doubled, start, image), (Doubled, "go", 0, 1))
                self.assertEqual(self.refusal(missing, start, image), (Missing, "x", 0))
                self.assertEqual(self.refusal(skewed, start, image), (Skewed, "go", 0))

    def test_the_start(self):
        pieces = [piece("p", code(("place", 0, "none", 0)), data(("cell", 1)), com=("common", 2), go=at(0, 0),
                        loc=at(0, 0, "local"), none=("maybe", None), tab=at(1, 0), weak=at(0, 1, "weak"))]
        for image in self.IMAGES:
            for start in ("tab", "com", "none", "loc", "zz", "p"):
                self.assertEqual(self.refusal(pieces, start, image), (Missing, start, -1))
            for start in ("go", "weak"):
                self.assertIs(is_right(pieces, start, image), False)
            self.assertEqual(self.refusal([], "go", image), (Missing, "go", -1))


class ByChance(unittest.TestCase):
    def spoilt(self, chance, cells, start, rows, pieces):
        """The parts of an image with one of them otherwise."""
        cells, rows = list(cells), list(rows)
        way = chance.randrange(11)
        k, row = chance.randrange(len(cells)), chance.randrange(len(rows))
        if way == 0:
            cells[k] = chance.choice([cells[k] + 1, cells[k] - 1, 0, 1, cells[chance.randrange(len(cells))]])
        elif way == 1:
            noughts = [at for at, cell in enumerate(cells) if cell == 0]
            cells[chance.choice(noughts)] = chance.choice([1, 17])
        elif way == 2:
            rows[row] = (rows[row][0], rows[row][1] + chance.choice([1, -1, 4, -4, 8]))
        elif way == 3:
            start += chance.choice([1, -1, 2])
        elif way == 4:
            other = chance.randrange(len(rows))
            rows[row], rows[other] = rows[other], rows[row]
        elif way == 5:
            del rows[row]
        elif way == 6:
            rows.insert(row, rows[chance.randrange(len(rows))])
        elif way == 7:
            holder = chance.choice([(0, 1), (1, 0), (0, 7), (2, 0), (-1, 0), (0, -1), ("common", "m0"),
                                    ("common", "m1"), ("common", "zz")])
            rows.insert(chance.choice([row, len(rows)]), (holder, chance.choice([1, rows[row][1], len(cells)])))
        elif way == 8:
            cells = cells[:k] if chance.random() < 0.5 else cells[:-1]
        elif way == 9:
            cells = cells + [chance.choice([0, 0, 1])] * chance.randint(1, 3)
        else:
            item = chance.choice([("jump", 1), ("place", 1, 5), ("when", 0, 3)])
            own = encode(item, chance.random() < 0.5)
            cells[k:k + len(own)] = own
        return cells, start, rows

    def test_each_is_as_told(self):
        chance = random.Random(18)
        told = {True: 0, False: 0}
        for _ in range(1500):
            pieces = draw_pieces(chance, chance.randint(1, 4), chance.choice([2, 5, 12, 90]))
            choice = choose(pieces)
            image = right_image(chance, pieces, choice, "start")
            place = choice["start"]
            parts = (image.cells(chance.choice([0, 0, 1, 5])), image.address((place[1:3], place[3])), image.rows)
            self.assertIs(is_right(pieces, "start", Image(*parts)), True)
            for _ in range(6):
                bad = self.spoilt(chance, *parts, pieces)
                right_one = plain_right(pieces, choice, "start", *bad)
                self.assertIs(is_right(pieces, "start", Image(*bad)), right_one)
                told[right_one] += 1
        self.assertGreater(told[True], 500)
        self.assertGreater(told[False], 5000)


class HandedIn(unittest.TestCase):
    def test_nothing_is_changed(self):
        image = Image(CELLS, 1, ROWS)
        before = copy.deepcopy((PIECES, image.cells, image.start, image.rows))
        is_right(PIECES, "main", image)
        self.assertEqual((PIECES, image.cells, image.start, image.rows), before)


class Interface(unittest.TestCase):
    def test_arguments_by_name(self):
        self.assertIs(is_right(image=Image(CELLS, 1, ROWS), start="main", pieces=PIECES), True)

    def test_it_is_defined_in_its_file(self):
        self.assertEqual(checker.is_right.__module__, "weldmill.checker")


if __name__ == "__main__":
    unittest.main()
