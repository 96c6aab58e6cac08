"""The Linker: points [2], [3] and [21]."""

import copy
import random
import unittest

from chance import draw_pieces

from weldmill import linker
from weldmill.errors import Broken, Doubled, Missing, NoPiece, Skewed, TooGreat, TooMany, Twin, WeldError
from weldmill.images import link
from weldmill.linker import Linker


def bare(name, number=0):
    """A piece of this name, alike only where the number is."""
    return (name, (("c", "code", 1, (("set", 0, number), ("halt",))),), (("in" + name, "strong", (0, 0)),))


def linker_of(*names):
    told = Linker()
    for name in names:
        told.put(bare(name))
    return told


def state(told):
    """All that a Linker tells without a change."""
    rest = Linker()
    return told.names(), len(told), [told.image("in" + name, leave=False).cells for name in told.names()], told == rest


def undone(told):
    """What undo tells again and again, with the names behind each."""
    rows = []
    word = told.undo()
    while word is not None:
        rows.append((word, told.names()))
        word = told.undo()
    return rows


class Deeds(unittest.TestCase):
    def test_none_at_first(self):
        told = Linker()
        self.assertEqual((told.names(), len(told), told.undo()), ([], 0, None))

    def test_put(self):
        told = linker_of("b", "a", "c")
        self.assertEqual((told.names(), len(told)), (["b", "a", "c"], 3))

    def test_exchange(self):
        told = linker_of("b", "a", "c")
        for name in ("b", "a", "c"):
            told.exchange(bare(name, 7))
            self.assertEqual((told.names(), len(told)), (["b", "a", "c"], 3))
        self.assertEqual(told.image("ina", leave=False).cells[1:], [1, 7, 0] * 3)

    def test_take_out(self):
        told = linker_of("b", "a", "c", "d")
        told.take_out("a")
        self.assertEqual(told.names(), ["b", "c", "d"])
        told.take_out("d")
        told.take_out("b")
        self.assertEqual((told.names(), len(told)), (["c"], 1))
        told.put(bare("a"))
        self.assertEqual(told.names(), ["c", "a"])

    def test_they_tell_nothing(self):
        told = Linker()
        self.assertIsNone(told.put(bare("a")))
        self.assertIsNone(told.exchange(bare("a", 1)))
        self.assertIsNone(told.take_out("a"))
        self.assertIsNone(told.all_of([]))


class Refused(unittest.TestCase):
    def test_twin(self):
        told = linker_of("b", "a")
        before = state(told)
        for name in ("b", "a"):
            with self.assertRaises(Twin) as caught:
                told.put(bare(name, 5))
            self.assertEqual(caught.exception.name, name)
        self.assertEqual(state(told), before)
        self.assertEqual(undone(told), [("put", ["b"]), ("put", [])])

    def test_thirty_and_one_more(self):
        names = ["p" + str(k) for k in range(30)]
        told = linker_of(*names)
        self.assertEqual((told.names(), len(told)), (names, 30))
        for name in ("q", "p0", "p29"):
            with self.assertRaises(TooMany) as caught:
                told.put(bare(name))
            self.assertEqual(caught.exception.most, 30)
        self.assertEqual(told.names(), names)
        told.exchange(bare("p5", 1))
        told.take_out("p5")
        told.put(bare("q"))
        with self.assertRaises(TooMany):
            told.put(bare("p5"))
        self.assertEqual(told.names(), names[:5] + names[6:] + ["q"])
        self.assertEqual([told.undo() for _ in range(4)], ["put", "taken", "exchanged", "put"])
        self.assertEqual(told.names(), names[:29])

    def test_no_piece(self):
        told = linker_of("b", "a")
        told.take_out("b")
        for deed in (lambda: told.exchange(bare("b")), lambda: told.take_out("b")):
            with self.assertRaises(NoPiece) as caught:
                deed()
            self.assertEqual(caught.exception.name, "b")
        self.assertEqual(told.names(), ["a"])
        self.assertEqual(undone(told), [("taken", ["b", "a"]), ("put", ["b"]), ("put", [])])
        for name in ("a", "c"):
            with self.assertRaises(NoPiece):
                Linker().take_out(name)
            with self.assertRaises(NoPiece):
                Linker().exchange(bare(name))

    def test_a_link(self):
        told = linker_of("a", "b")
        before = state(told)
        for start, keep in (("zz", ()), ("ina", ("zz",))):
            with self.assertRaises(Missing) as caught:
                told.image(start, keep=keep)
            self.assertEqual((caught.exception.name, caught.exception.piece), ("zz", -1))
        self.assertEqual(state(told), before)
        told.put(("d", (), (("ina", "common", 2),)))
        told.put(("e", (("c", "code", 1, ()),), (("inb", "strong", (0, 0)),)))
        with self.assertRaises(Doubled) as caught:
            told.image("ina")
        self.assertEqual((caught.exception.name, caught.exception.one, caught.exception.other), ("inb", 1, 3))
        self.assertEqual([told.undo(), told.undo(), told.undo()], ["put", "put", "put"])
        self.assertEqual(told.names(), ["a"])

    def test_links_of_other_refusals(self):
        told = linker_of("a")
        told.put(("s", (("c", "code", 1, (("place", 0, "ina", 1),)),), ()))
        with self.assertRaises(Skewed):
            told.image("ina")
        told.exchange(("s", (("d", "data", 1, (("room", 500),) * 40),), (("big", "strong", (0, 0)),)))
        with self.assertRaises(TooGreat) as caught:
            told.image("ina", leave=False)
        self.assertEqual(caught.exception.most, 20000)
        with self.assertRaises(TooGreat):
            told.image("ina", keep=("big",))
        self.assertEqual(len(told.image("ina")), 4)
        self.assertEqual(undone(told), [("exchanged", ["a", "s"]), ("put", ["a"]), ("put", [])])

    def test_they_are_weld_errors(self):
        told = linker_of("a")
        for deed in (lambda: told.put(bare("a")), lambda: told.take_out("b"), lambda: told.all_of([("take", "b")])):
            with self.assertRaises(WeldError):
                deed()


class Undo(unittest.TestCase):
    def test_further_back_each_time(self):
        told = linker_of("a", "b", "c")
        told.exchange(bare("b", 1))
        told.take_out("a")
        told.put(bare("a", 2))
        told.exchange(bare("a", 3))
        told.take_out("c")
        self.assertEqual(undone(told), [
            ("taken", ["b", "c", "a"]), ("exchanged", ["b", "c", "a"]), ("put", ["b", "c"]), ("taken", ["a", "b", "c"]),
            ("exchanged", ["a", "b", "c"]), ("put", ["a", "b"]), ("put", ["a"]), ("put", [])])
        self.assertIsNone(told.undo())
        self.assertEqual(told, Linker())

    def test_the_pieces_stand_as_ahead_of_it(self):
        for deed, word in ((lambda told: told.take_out("b"), "taken"),
                           (lambda told: told.exchange(bare("b", 9)), "exchanged"),
                           (lambda told: told.put(bare("d")), "put")):
            told = linker_of("a", "b", "c")
            deed(told)
            self.assertNotEqual(told, linker_of("a", "b", "c"))
            self.assertEqual(told.undo(), word)
            self.assertEqual(told, linker_of("a", "b", "c"))

    def test_what_is_undone_is_gone(self):
        told = linker_of("a", "b")
        self.assertEqual(told.undo(), "put")
        told.put(bare("c"))
        self.assertEqual(undone(told), [("put", ["a"]), ("put", [])])

    def test_of_nothing(self):
        told = Linker()
        self.assertEqual([told.undo(), told.undo()], [None, None])
        told.put(bare("a"))
        self.assertEqual([told.undo(), told.undo()], ["put", None])
        told.put(bare("a"))
        self.assertEqual(told.names(), ["a"])


class AllOf(unittest.TestCase):
    DEEDS = [("put", bare("x")), ("exchange", bare("a", 4)), ("take", "b"), ("put", bare("b", 6)), ("take", "x")]

    def test_done_in_order(self):
        told = linker_of("a", "b")
        told.all_of(self.DEEDS)
        right = Linker()
        right.put(bare("a", 4))
        right.put(bare("b", 6))
        self.assertEqual(told, right)

    def test_undo_goes_back_by_one_of_them(self):
        told = linker_of("a", "b")
        told.all_of(self.DEEDS)
        self.assertEqual(undone(told), [("taken", ["a", "x", "b"]), ("put", ["a", "x"]), ("taken", ["a", "b", "x"]),
                                        ("exchanged", ["a", "b", "x"]), ("put", ["a", "b"]), ("put", ["a"]),
                                        ("put", [])])

    def test_none(self):
        told = linker_of("a")
        told.all_of([])
        self.assertEqual(undone(told), [("put", [])])

    def test_a_refused_one(self):
        bad = ((("take", "zz"), NoPiece), (("exchange", bare("zz")), NoPiece), (("put", bare("a")), Twin))
        for deed, kind in bad:
            for number in range(len(self.DEEDS) + 1):
                told = linker_of("a", "b")
                told.take_out("b")
                told.undo()
                before = state(told)
                deeds = self.DEEDS[:number] + [deed] + self.DEEDS[number:]
                with self.assertRaises(Broken) as caught:
                    told.all_of(deeds)
                self.assertEqual(caught.exception.number, number)
                self.assertIs(caught.exception.__cause__.__class__, kind)
                self.assertEqual(state(told), before)
                self.assertEqual(told, linker_of("a", "b"))
                self.assertEqual(undone(told), [("put", ["a"]), ("put", [])])

    def test_the_first_refused_one_is_told(self):
        told = linker_of("a")
        with self.assertRaises(Broken) as caught:
            told.all_of([("put", bare("b")), ("put", bare("b")), ("take", "zz")])
        self.assertEqual((caught.exception.number, caught.exception.__cause__.name), (1, "b"))
        self.assertEqual(told.names(), ["a"])

    def test_too_many(self):
        told = linker_of(*["p" + str(k) for k in range(28)])
        with self.assertRaises(Broken) as caught:
            told.all_of([("put", bare("a")), ("put", bare("b")), ("put", bare("a"))])
        self.assertEqual((caught.exception.number, caught.exception.__cause__.__class__), (2, TooMany))
        self.assertEqual(len(told), 28)
        told.all_of([("put", bare("a")), ("put", bare("b")), ("take", "a"), ("put", bare("c"))])
        self.assertEqual(told.names()[27:], ["p27", "b", "c"])

    def test_behind_a_refused_one(self):
        told = linker_of("a")
        with self.assertRaises(Broken):
            told.all_of([("put", bare("b")), ("take", "zz")])
        told.put(bare("c"))
        told.all_of([("put", bare("b")), ("take", "a")])
        self.assertEqual(undone(told), [("taken", ["a", "c", "b"]), ("put", ["a", "c"]), ("put", ["a"]), ("put", [])])

    def test_the_list_is_not_changed(self):
        deeds = list(self.DEEDS)
        told = linker_of("a", "b")
        told.all_of(deeds)
        self.assertEqual(deeds, self.DEEDS)
        deeds.clear()
        self.assertEqual(told.undo(), "taken")


class Told(unittest.TestCase):
    def test_names_are_a_new_list(self):
        told = linker_of("a", "b")
        told.names().clear()
        told.names().append("c")
        self.assertEqual(told.names(), ["a", "b"])

    def test_images(self):
        pieces = [bare("a", 3), bare("b", 4), ("d", (("x", "data", 2, (("cell", 9),)),),
                                               (("com", "common", 3), ("tab", "weak", (0, 0))))]
        told = Linker()
        told.all_of([("put", piece) for piece in pieces])
        for start in ("ina", "inb"):
            for keep in ((), ("tab",), ("com", "ina"), ("tab", "com", "inb")):
                for leave in (False, True):
                    self.assertEqual(told.image(start, keep=keep, leave=leave),
                                     link(pieces, start, keep=keep, leave=leave))
                self.assertEqual(told.image(start, keep=keep), link(pieces, start, keep=keep))
            self.assertEqual(told.image(start), link(pieces, start))
            self.assertNotEqual(told.image(start), told.image(start, leave=False))

    def test_an_image_is_the_askers_own(self):
        told = linker_of("a")
        image = told.image("ina")
        image.cells.clear()
        image.rows.clear()
        self.assertEqual(told.image("ina"), link([bare("a")], "ina"))

    def test_equality(self):
        self.assertTrue(Linker() == Linker())
        self.assertTrue(linker_of("a", "b") == linker_of("a", "b"))
        self.assertFalse(linker_of("a", "b") != linker_of("a", "b"))
        for other in (linker_of("b", "a"), linker_of("a"), linker_of("a", "b", "c"), Linker(), linker_of("a", "c")):
            self.assertFalse(linker_of("a", "b") == other)
            self.assertTrue(linker_of("a", "b") != other)
        other = linker_of("a", "b")
        other.exchange(bare("b", 1))
        self.assertFalse(linker_of("a", "b") == other)
        other.exchange(bare("b"))
        self.assertTrue(linker_of("a", "b") == other)
        for thing in (None, 2, [], ["a", "b"], [bare("a"), bare("b")], "Linker"):
            self.assertFalse(linker_of("a", "b") == thing)

    def test_two_by_turns(self):
        one, other = Linker(), Linker()
        for name in ("a", "b", "c"):
            one.put(bare(name))
            other.put(bare("x" + name))
            self.assertEqual(one.names(), [row[1:] for row in other.names()])
        one.take_out("b")
        self.assertEqual(other.names(), ["xa", "xb", "xc"])
        self.assertEqual(other.undo(), "put")
        self.assertEqual((one.names(), other.names()), (["a", "c"], ["xa", "xb"]))
        with self.assertRaises(Broken):
            other.all_of([("put", bare("a")), ("take", "c")])
        self.assertEqual(one.undo(), "taken")
        self.assertEqual((one.names(), other.names()), (["a", "b", "c"], ["xa", "xb"]))
        self.assertEqual([one.undo() for _ in range(4)], ["put"] * 3 + [None])
        self.assertEqual((len(one), len(other)), (0, 2))


class ByChance(unittest.TestCase):
    def deed(self, chance, drawn):
        word = chance.choice(["put", "put", "put", "exchange", "take", "undo"])
        piece = chance.choice(drawn)
        return (word, piece[0]) if word == "take" else (word, piece)

    def done(self, pieces, deed):
        """The pieces behind the deed; None where it is refused."""
        word, what = deed
        names = [piece[0] for piece in pieces]
        name = what if word == "take" else what[0]
        if word == "put":
            return None if name in names or len(pieces) > 29 else pieces + [what]
        if name not in names:
            return None
        k = names.index(name)
        return pieces[:k] + ([what] if word == "exchange" else []) + pieces[k + 1:]

    def test_an_image_is_that_of_its_pieces_linked_once(self):
        """Whatever went in, was exchanged, taken out and undone."""
        chance = random.Random(22)
        words = {"put": "put", "exchange": "exchanged", "take": "taken"}
        linked = 0
        for _ in range(60):
            drawn = [("q" + str(k % 4),) + piece[1:] for k, piece in enumerate(
                draw_pieces(chance, 1, 4) + draw_pieces(chance, 2, 6) + draw_pieces(chance, 3, 6))]
            told, past = Linker(), [(None, [])]
            for _ in range(40):
                deeds = [self.deed(chance, drawn) for _ in range(chance.choice([1, 1, 1, 3]))]
                if deeds[0][0] == "undo":
                    word = told.undo()
                    self.assertEqual(word, past.pop()[0] if len(past) > 1 else None)
                    continue
                deeds = [deed for deed in deeds if deed[0] != "undo"]
                rows = []
                for deed in deeds:
                    pieces = self.done(rows[-1][1] if rows else past[-1][1], deed)
                    if pieces is None:
                        break
                    rows.append((words[deed[0]], pieces))
                try:
                    told.all_of(deeds)
                    past += rows
                    self.assertEqual(len(rows), len(deeds))
                except Broken as refused:
                    self.assertEqual(refused.number, len(rows))
                pieces = past[-1][1]
                self.assertEqual((told.names(), len(told)), ([piece[0] for piece in pieces], len(pieces)))
                linked += self.links(told, pieces)
            self.assertEqual([told.undo() for _ in range(len(past) - 1)], [row[0] for row in past[:0:-1]])
            self.assertEqual((told.undo(), told), (None, Linker()))
        self.assertGreater(linked, 300)

    def links(self, told, pieces):
        """Whether the pieces can be linked; the Linker links them alike."""
        once = Linker()
        once.all_of([("put", piece) for piece in pieces])
        self.assertEqual(told, once)
        try:
            image = link(pieces, "start")
        except WeldError as refused:
            with self.assertRaises(refused.__class__):
                told.image("start")
            return False
        self.assertEqual(told.image("start"), image)
        self.assertEqual(once.image("start"), image)
        return True


class HandedIn(unittest.TestCase):
    def test_nothing_is_changed(self):
        piece, deeds = bare("a"), [("put", bare("b")), ("take", "a"), ("take", "a")]
        before = copy.deepcopy((piece, deeds))
        told = Linker()
        told.put(piece)
        with self.assertRaises(Broken):
            told.all_of(deeds)
        told.image("ina")
        self.assertEqual((piece, deeds), before)


class Interface(unittest.TestCase):
    def test_arguments_by_name(self):
        told = Linker()
        told.put(piece=bare("a"))
        told.exchange(piece=bare("a", 1))
        told.all_of(deeds=[("put", bare("b"))])
        told.take_out(name="b")
        self.assertEqual(told.image(leave=False, keep=("ina",), start="ina").cells, [0, 1, 1, 0])

    def test_by_name_alone(self):
        with self.assertRaises(TypeError):
            linker_of("a").image("ina", ())

    def test_each_method_is_its_own(self):
        self.assertEqual(Linker.__module__, "weldmill.linker")
        self.assertIs(linker.Linker, Linker)
        for word in ("put", "exchange", "take_out", "all_of", "undo", "names", "image", "__eq__", "__len__"):
            self.assertIn(word, Linker.__dict__)


if __name__ == "__main__":
    unittest.main()
