"""Images, their instructions and how they are made: points [2], [15] and [16]."""

import copy
import random
import unittest

from chance import draw_pieces
from plain import plain_link

from weldmill import images
from weldmill.choice import choose
from weldmill.errors import Doubled, Missing, Skewed, TooGreat, WeldError
from weldmill.images import MOST_CELLS, Image, decode, encode, link
from weldmill.pieces import is_piece

TEN_30 = 10 ** 30

# Each op with its word, how many registers it has, and whether a second cell.
PLAIN = {0: ("halt", 0), 2: ("copy", 2), 3: ("add", 2), 4: ("less", 2), 5: ("times", 2), 16: ("back", 0),
         17: ("tell", 1), 18: ("enter", 1)}
TWO_CELLS = {1: ("set", 1), 9: ("place", 1), 11: ("call", 0), 13: ("jump", 0), 15: ("when", 1)}
# Each op with a number in its cell: its word, registers, what is added, the least and the greatest.
WITH_NUMBER = {6: ("load", 2, 128, -99, 99), 7: ("store", 2, 128, -99, 99), 8: ("place", 1, 0, 0, 255),
               10: ("call", 0, 128, -64, 63), 12: ("jump", 0, 128, -64, 63), 14: ("when", 1, 128, -64, 63)}


def piece(name, *sections, **symbols):
    return (name, sections, tuple(sorted([(key,) + row for key, row in symbols.items()])))


def code(*items):
    return ("c", "code", 1, items)


def data(*items, unit=1):
    return ("d", "data", unit, items)


def at(section, offset, binding="strong"):
    return (binding, (section, offset))


class Images(unittest.TestCase):
    def test_attributes(self):
        image = Image([0, 17, 0], 1, [((0, 0), 1)])
        self.assertEqual((image.cells, image.start, image.rows), ([0, 17, 0], 1, [((0, 0), 1)]))

    def test_lists_of_its_own(self):
        cells, rows = [0, 1], [((0, 0), 1)]
        image = Image(cells, 1, rows)
        image.cells.append(5)
        image.rows.append(((0, 1), 2))
        self.assertEqual((cells, rows), ([0, 1], [((0, 0), 1)]))
        cells[0] = 9
        rows.clear()
        self.assertEqual((image.cells, image.rows), ([0, 1, 5], [((0, 0), 1), ((0, 1), 2)]))

    def test_equality(self):
        image = Image([0, 1], 1, [((0, 0), 1)])
        self.assertTrue(image == Image([0, 1], 1, [((0, 0), 1)]))
        self.assertFalse(image != Image([0, 1], 1, [((0, 0), 1)]))
        for other in (Image([0, 2], 1, [((0, 0), 1)]), Image([0, 1, 0], 1, [((0, 0), 1)]), Image([0], 1, [((0, 0), 1)]),
                      Image([0, 1], 2, [((0, 0), 1)]), Image([0, 1], 1, []), Image([0, 1], 1, [((0, 1), 1)]),
                      Image([0, 1], 1, [((0, 0), 2)]), Image([0, 1], 1, [((0, 0), 1), ((0, 1), 1)])):
            self.assertFalse(image == other)
            self.assertTrue(image != other)
        for other in (None, 5, [0, 1], ([0, 1], 1, [((0, 0), 1)]), "Image(2 cells, start 1)"):
            self.assertFalse(image == other)
        self.assertTrue(Image([], 0, []) == Image([], 0, []))
        two = Image([], 0, [((0, 0), 1), ((0, 1), 1)])
        self.assertFalse(two == Image([], 0, [((0, 1), 1), ((0, 0), 1)]))

    def test_length_and_words(self):
        for cells, start, words in (([], 0, "Image(0 cells, start 0)"), ([0], 1, "Image(1 cells, start 1)"),
                                    ([0] * 700, 35, "Image(700 cells, start 35)"),
                                    ([0], -2, "Image(1 cells, start -2)")):
            self.assertEqual(len(Image(cells, start, [])), len(cells))
            self.assertEqual(repr(Image(cells, start, [])), words)


def registers(many):
    """All registers of an instruction with so many, and what they make in its cell."""
    if many == 0:
        return [((), 0)]
    if many == 1:
        return [((r,), 32 * r) for r in range(8)]
    return [((r, s), 32 * r + 256 * s) for r in range(8) for s in range(8)]


class Encoded(unittest.TestCase):
    def test_one_cell(self):
        for op, (word, many) in PLAIN.items():
            for row, number in registers(many):
                for far in (False, True):
                    self.assertEqual(encode((word,) + row, far), [op + number])

    def test_set(self):
        for r in range(8):
            for n in (0, 1, -1, 10 ** 9, -10 ** 9):
                self.assertEqual(encode(("set", r, n)), [1 + 32 * r, n])
                self.assertEqual(encode(("set", r, n), True), [1 + 32 * r, n])

    def test_a_number_in_the_cell(self):
        for op, (word, many, more, least, greatest) in WITH_NUMBER.items():
            for row, number in registers(many):
                for n in (least, least + 1, 0, 1, greatest - 1, greatest):
                    self.assertEqual(encode((word,) + row + (n,)), [op + number + 2048 * (n + more)])

    def test_far_forms(self):
        for op, (word, many) in TWO_CELLS.items():
            for row, number in registers(many):
                for n in (0, 1, 63, 64, 255, 256, 19999, -64, -65, -19999):
                    self.assertEqual(encode((word,) + row + (n,), True), [op + number, n])

    def test_load_and_store_have_one_form(self):
        self.assertEqual(encode(("load", 1, 2, 3), far=True), [6 + 32 + 512 + 2048 * 131])
        self.assertEqual(encode(("store", 1, 2, -3), far=True), [7 + 32 + 512 + 2048 * 125])

    def test_by_hand(self):
        self.assertEqual(encode(("halt",)), [0])
        self.assertEqual(encode(("jump", 0)), [262156])
        self.assertEqual(encode(("place", 7, 255)), [522472])
        self.assertEqual(encode(("when", 3, -1), far=True), [111, -1])

    def test_data(self):
        self.assertEqual(encode(("cell", -7)), [-7])
        self.assertEqual(encode(("room", 3)), [0, 0, 0])
        self.assertEqual(encode(("room", 0)), [])
        self.assertEqual(encode(("at", 300)), [300])

    def test_each_list_is_a_new_one(self):
        for item in (("halt",), ("set", 0, 1), ("cell", 4), ("room", 2)):
            first = encode(item)
            right = list(first)
            first.append(1)
            self.assertEqual(encode(item), right)
            self.assertIs(encode(item).__class__, list)


class Decoded(unittest.TestCase):
    def test_one_cell(self):
        for op, (word, many) in PLAIN.items():
            for row, number in registers(many):
                for other in (0, 1, -5, TEN_30):
                    self.assertEqual(decode(op + number, other), ((word,) + row, 1))

    def test_two_cells(self):
        for op, (word, many) in TWO_CELLS.items():
            for row, number in registers(many):
                for n in (0, 1, -1, 64, 256, -65, TEN_30, -TEN_30):
                    self.assertEqual(decode(op + number, n), ((word,) + row + (n,), 2))

    def test_a_number_in_the_cell(self):
        for op, (word, many, more, least, greatest) in WITH_NUMBER.items():
            for row, number in registers(many):
                for n in range(least, greatest + 1):
                    self.assertEqual(decode(op + number + 2048 * (n + more), 7), ((word,) + row + (n,), 1))

    def test_numbers_just_outside(self):
        for op, (word, _, more, least, greatest) in WITH_NUMBER.items():
            for n in (least - 1, least - 2, greatest + 1, greatest + 2, greatest + 256, greatest + 2048, TEN_30):
                self.assertIsNone(decode(op + 2048 * (n + more), 0), (word, n))

    def test_registers_that_there_are_not(self):
        for op in range(19):
            many = {**PLAIN, **TWO_CELLS, **WITH_NUMBER}[op][1]
            field = 2048 * 128 if op in WITH_NUMBER else 0
            for r in range(8):
                for s in range(8):
                    right = (r == 0 or many > 0) and (s == 0 or many > 1)
                    self.assertEqual(decode(op + 32 * r + 256 * s + field, 0) is not None, right, (op, r, s))

    def test_a_number_where_there_is_none(self):
        for op in list(PLAIN) + list(TWO_CELLS):
            for number in (1, 2, 128, 255, 10 ** 20):
                self.assertIsNone(decode(op + 2048 * number, 0))

    def test_ops_that_there_are_not(self):
        for op in range(19, 32):
            for more in (0, 32, 256, 2048 * 128):
                self.assertIsNone(decode(op + more, 0))

    def test_below_0_and_great(self):
        for number in (-1, -2, -31, -32, -2048, -2047, -2048 * 128, -TEN_30, -10 ** 59, -(1 << 70)):
            self.assertIsNone(decode(number, 0), number)
            self.assertIsNone(decode(number, number), number)
        for number in (TEN_30, 10 ** 59, 1 << 40, (1 << 40) + 8, (1 << 90) + 1):
            self.assertIsNone(decode(number, 0), number)

    def test_each_number_is_none_or_encoded_back(self):
        for number in range(-5000, 600000, 7):
            told = decode(number, 77)
            if told is not None:
                item, length = told
                self.assertIn([number, 77][:length], [encode(item), encode(item, far=True)])

    def test_both_forms_alike(self):
        for item in (("place", 3, 40), ("call", -5), ("jump", 63), ("when", 1, -64)):
            self.assertEqual(decode(encode(item)[0], 9), (item, 1))
            self.assertEqual(decode(*encode(item, True)), (item, 2))

    def test_kinds_of_values(self):
        self.assertEqual([decode(0, 0).__class__, decode(0, 0)[0].__class__, decode(0, 0)[1].__class__],
                         [tuple, tuple, int])


MAIN = piece("main", code(("place", 0, "table", 1), ("call", "sub"), ("load", 1, 0, -1), ("tell", 1), ("halt",)),
             data(("cell", 7)), code(("jump", "main")), main=at(0, 0))
MORE = piece("more", data(("cell", -5), ("room", 2), ("at", "sub", 0), ("at", "pad", 2), ("at", "void", 9), unit=4),
             code(("set", 2, 300), ("when", 2, "out"), ("jump", "void"), ("back",)), code(), data(unit=8),
             pad=("common", 3), sub=at(1, 0), table=at(0, 0), void=("maybe", None), out=at(1, 3, "local"),
             empty=at(2, 0, "weak"), tail=at(3, 0))


class Linked(unittest.TestCase):
    def test_left_out(self):
        image = link([MAIN, MORE], "main")
        cells = [0, 8 + 2048 * 13, 10 + 2048 * 132, 6 + 32 + 2048 * 127, 17 + 32, 0,
                 1 + 64, 300, 14 + 64 + 2048 * 130, 12 + 2048 * 128, 16, 0, -5, 0, 0, 6, 20, 9, 0, 0, 0]
        self.assertEqual(image.rows, [((0, 0), 1), ((1, 1), 6), ((1, 0), 12), (("common", "pad"), 18)])
        self.assertEqual(image.cells, cells)
        self.assertEqual(image.start, 1)
        self.assertEqual(repr(image), "Image(21 cells, start 1)")

    def test_all(self):
        image = link([MAIN, MORE], "main", leave=False)
        rows = [((0, 0), 1), ((0, 2), 6), ((1, 1), 7), ((1, 2), 12), ((0, 1), 12), ((1, 0), 16), ((1, 3), 24),
                (("common", "pad"), 24)]
        cells = [0, 8 + 2048 * 17, 10 + 2048 * 133, 6 + 32 + 2048 * 127, 17 + 32, 0, 12 + 2048 * 123,
                 1 + 64, 300, 14 + 64 + 2048 * 130, 12 + 2048 * 128, 16, 7, 0, 0, 0,
                 -5, 0, 0, 7, 26, 9, 0, 0, 0, 0, 0]
        self.assertEqual(image, Image(cells, 1, rows))
        self.assertEqual(link([MAIN, MORE], "main", leave=False, keep=("sub",)), image)

    def test_keep_names(self):
        rows = link([MAIN, MORE], "main", keep=("empty", "tail")).rows
        self.assertEqual(rows, [((0, 0), 1), ((1, 1), 6), ((1, 2), 11), ((1, 0), 12), ((1, 3), 24),
                                (("common", "pad"), 24)])
        short = [piece("p", code(("halt",)), go=at(0, 0)), piece("q", data(("cell", 1)), c=("common", 2), d=at(0, 1))]
        self.assertEqual(link(short, "go").cells, [0, 0])
        self.assertEqual(link(short, "go", keep=("c",)), Image([0, 0, 0, 0], 1, [((0, 0), 1), (("common", "c"), 2)]))
        self.assertEqual(link(short, "go", keep=("c", "d", "go")),
                         Image([0, 0, 1, 0, 0], 1, [((0, 0), 1), ((1, 0), 2), (("common", "c"), 3)]))

    def test_all_of_it_by_place_or_left_out(self):
        self.assertEqual(link([MAIN, MORE], "main", leave=True, keep=(), most=20000), link([MAIN, MORE], "main"))

    def test_start(self):
        pieces = [piece("p", code(("jump", "go"), ("set", 0, 1), ("tell", 0)), code(("halt",)), end=at(0, 3),
                        go=at(1, 0),
                        mid=at(0, 2, "weak"))]
        self.assertEqual([link(pieces, name).start for name in ("go", "mid", "end")], [1, 4, 5])
        self.assertEqual(link(pieces, "go").rows, [((0, 1), 1)])
        self.assertEqual(link(pieces, "end").rows, [((0, 0), 1), ((0, 1), 5)])

    def test_an_empty_section_behind_all(self):
        pieces = [piece("p", code(), go=at(0, 0))]
        self.assertEqual(link(pieces, "go"), Image([0], 1, [((0, 0), 1)]))
        pieces = [piece("p", code(("place", 0, "x", 3)), data(unit=8), go=at(0, 0), x=at(1, 0))]
        self.assertEqual(link(pieces, "go"), Image([0, 8 + 2048 * 11] + [0] * 6, 1, [((0, 0), 1), ((0, 1), 8)]))

    def test_far_forms(self):
        items = (("when", 1, "far"), ("place", 2, "data", 5)) + (("copy", 0, 1),) * 300
        pieces = [piece("p", code(*items), data(("cell", 1)), data=at(1, 0), far=at(0, 302), go=at(0, 1))]
        image = link(pieces, "go")
        self.assertEqual(image.cells[:6], [0, 15 + 32, 304, 9 + 64, 310, 2 + 256])
        self.assertEqual((image.start, image.rows), (3, [((0, 0), 1), ((0, 1), 305)]))

    def test_ats_of_code_behind_far_ones(self):
        items = (("call", "far"),) + (("tell", 1),) * 100 + (("place", 0, "data", 0),)
        pieces = [piece("p", code(*items), data(("at", "far", 0), ("at", "mid", 0)), data=at(1, 1), far=at(0, 102),
                        go=at(0, 0), mid=at(0, 1))]
        self.assertEqual(link(pieces, "go").cells[-2:], [104, 3])

    def test_commons_of_the_greatest_size(self):
        pieces = [piece("p", code(("place", 0, "c", 0)), c=("common", 2), go=at(0, 0)), piece("q", c=("common", 500))]
        self.assertEqual(len(link(pieces, "go")), 502)

    def test_each_lists_is_its_own(self):
        image = link([MAIN, MORE], "main")
        image.cells.clear()
        image.rows.clear()
        self.assertEqual(len(link([MAIN, MORE], "main")), 21)
        self.assertEqual(len(link([MAIN, MORE], "main").rows), 4)


def refusal(*given, **named):
    """The class of the refusal and its fields; None where there is none."""
    try:
        link(*given, **named)
    except Doubled as refused:
        return (Doubled, refused.name, refused.one, refused.other)
    except (Missing, Skewed) as refused:
        return (refused.__class__, refused.name, refused.piece)
    except TooGreat as refused:
        return (TooGreat, refused.most)
    return None


class Refused(unittest.TestCase):
    GOOD = piece("p", code(("halt",), ("place", 0, "none", 0)), data(("cell", 1)), com=("common", 2), go=at(0, 0),
                 loc=at(0, 0, "local"), none=("maybe", None), tab=at(1, 0), weak=at(0, 1, "weak"))

    def test_by_the_choice(self):
        doubled = [piece("p", code(), go=at(0, 0)), piece("q", code(), go=at(0, 0))]
        missing = [piece("p", code(("jump", "x")), go=at(0, 0))]
        skewed = [piece("p", code(("place", 0, "go", 1)), go=at(0, 0))]
        for leave in (False, True):
            self.assertEqual(refusal(doubled, "go", leave=leave), (Doubled, "go", 0, 1))
            self.assertEqual(refusal(missing, "go", leave=leave), (Missing, "x", 0))
            self.assertEqual(refusal(skewed, "go", leave=leave), (Skewed, "go", 0))
            for start in ("zz", "tab"):
                self.assertEqual(refusal(doubled, start, keep=("zz",), leave=leave, most=0), (Doubled, "go", 0, 1))
                self.assertEqual(refusal(missing, start, keep=("zz",), leave=leave, most=0), (Missing, "x", 0))
                self.assertEqual(refusal(skewed, start, keep=("zz",), leave=leave, most=0), (Skewed, "go", 0))

    def test_the_start(self):
        for start in ("tab", "com", "none", "loc", "zz", "p", "c"):
            for leave in (False, True):
                for keep in ((), ("aa",), ("none", "zz"), (start,)):
                    self.assertEqual(refusal([self.GOOD], start, keep=keep, leave=leave, most=0), (Missing, start, -1))
        for start in ("go", "weak"):
            self.assertIsNone(refusal([self.GOOD], start))
        self.assertEqual(refusal([], "go"), (Missing, "go", -1))
        self.assertEqual(refusal([], "go", most=0), (Missing, "go", -1))

    def test_keep_names(self):
        for leave in (False, True):
            for name in ("none", "zz", "loc", "p"):
                for keep in ((name,), ("go", "tab", "com", name), (name, "aa"), (name, "go"),
                             ("com", name, "none", "loc")):
                    self.assertEqual(refusal([self.GOOD], "go", keep=keep, leave=leave, most=0), (Missing, name, -1))
            self.assertIsNone(refusal([self.GOOD], "go", keep=("tab", "com", "weak", "go", "go"), leave=leave))

    def test_most(self):
        for pieces, keep, leave in (([MAIN, MORE], (), True), ([MAIN, MORE], ("tail", "empty"), True),
                                    ([MAIN, MORE], (), False), ([self.GOOD], (), True)):
            start = "go" if pieces == [self.GOOD] else "main"
            many = len(link(pieces, start, keep=keep, leave=leave))
            self.assertIsNone(refusal(pieces, start, keep=keep, leave=leave, most=many))
            self.assertIsNone(refusal(pieces, start, keep=keep, leave=leave, most=many + 1))
            for most in (many - 1, 1, 0, -1):
                self.assertEqual(refusal(pieces, start, keep=keep, leave=leave, most=most), (TooGreat, most))

    def test_most_cells(self):
        self.assertEqual(MOST_CELLS, 20000)
        for last, right in ((498, None), (499, (TooGreat, 20000))):
            rooms = (("room", 500),) * 39 + (("room", last),)
            pieces = [piece("p", code(("halt",)), data(*rooms), go=at(0, 0), tab=at(1, 0))]
            self.assertTrue(is_piece(pieces[0]))
            self.assertEqual(refusal(pieces, "go", leave=False), right)
            self.assertEqual(refusal(pieces, "go", keep=("tab",)), right)
            self.assertIsNone(refusal(pieces, "go"))
            self.assertIsNone(refusal(pieces, "go", leave=False, most=20001))
        self.assertEqual(len(link(pieces, "go", leave=False, most=30000)), 20001)

    def test_they_are_weld_errors(self):
        for given in (([self.GOOD], "zz"), ([], "go")):
            with self.assertRaises(WeldError):
                link(*given)
        with self.assertRaises(ValueError):
            link([self.GOOD], "go", most=1)


class ByChance(unittest.TestCase):
    def test_each_is_as_told(self):
        chance = random.Random(16)
        for _ in range(1500):
            pieces = draw_pieces(chance, chance.randint(1, 5), chance.choice([3, 10, 60, 150]))
            choice = choose(pieces)
            names = [name for name in sorted(choice) if choice[name][0] != "none"]
            keep = tuple(chance.sample(names, chance.choice([0, 1, min(2, len(names))])))
            leave = chance.random() < 0.6
            image = link(pieces, "start", keep=keep, leave=leave)
            self.assertEqual((image.cells, image.start, image.rows), plain_link(pieces, choice, "start", keep, leave))


class HandedIn(unittest.TestCase):
    def test_nothing_is_changed(self):
        pieces = [MAIN, MORE]
        before = copy.deepcopy(pieces)
        link(pieces, "main", keep=("tail",), leave=False)
        self.assertEqual(pieces, before)


class Interface(unittest.TestCase):
    def test_arguments_by_name(self):
        self.assertEqual(Image(rows=[], start=4, cells=[0]), Image([0], 4, []))
        self.assertEqual(encode(far=True, item=("jump", 4)), [13, 4])
        self.assertEqual(encode(item=("jump", 4)), [12 + 2048 * 132])
        self.assertEqual(decode(other=4, one=13), (("jump", 4), 2))
        self.assertEqual(link(most=50, leave=False, keep=(), start="main", pieces=[MAIN, MORE]).start, 1)

    def test_by_name_alone(self):
        with self.assertRaises(TypeError):
            link([MAIN, MORE], "main", ())

    def test_each_is_defined_in_its_file(self):
        for word in ("Image", "encode", "decode", "link"):
            self.assertEqual(getattr(images, word).__module__, "weldmill.images")
        for word in ("__init__", "__eq__", "__len__", "__repr__"):
            self.assertIn(word, Image.__dict__)


if __name__ == "__main__":
    unittest.main()
