"""What is drawn from archives, and why: points [2] and [9]."""

import copy
import random
import unittest

from weldmill import archives as archive_file
from weldmill.archives import are_reasons, drawn
from weldmill.pieces import is_piece


def piece_of(name, asks="", strong="", weak="", common="", local="", maybe=""):
    """A piece that asks the names and has the symbols, each told by a text of names with blanks between."""
    symbols = [(word, "strong", (1, 0)) for word in strong.split()]
    symbols += [(word, "weak", (0, 0)) for word in weak.split()]
    symbols += [(word, "local", (1, 1)) for word in local.split()]
    symbols += [(word, "common", 4) for word in common.split()]
    symbols += [(word, "maybe", None) for word in maybe.split()]
    items = tuple([("at", word, 0) for word in asks.split()])
    return (name, (("c", "code", 1, ()), ("d", "data", 1, items + (("cell", 0),))), tuple(sorted(symbols)))


def told_of(pieces, archives, **how):
    """The names of the pieces that are drawn, and the reasons."""
    row, reasons = drawn(pieces, archives, **how)
    return [piece[0] for piece in row[len(pieces):]], reasons


class Drawn(unittest.TestCase):
    def test_nothing_of_nothing(self):
        self.assertEqual(drawn([], []), ([], []))
        self.assertEqual(drawn([], [()]), ([], []))
        self.assertEqual(drawn([], [(piece_of("a", strong="x"),)]), ([], []))
        self.assertEqual(drawn([], [(piece_of("a", asks="x"), piece_of("b", strong="x"))], group=True), ([], []))

    def test_a_member_that_is_asked(self):
        asker, member = piece_of("a", "x"), piece_of("m", strong="x")
        for group in (False, True):
            self.assertEqual(drawn([asker], [(member,)], group=group), ([asker, member], [(0, 0, "x", 0)]))

    def test_members_that_are_not_asked(self):
        asker, other = piece_of("a", "x"), piece_of("m", strong="y")
        self.assertEqual(drawn([asker], [(other,), (other,)]), ([asker], []))
        self.assertEqual(told_of([asker], [(other, piece_of("n", weak="z"), piece_of("o", weak="x"))]),
                         (["o"], [(0, 2, "x", 0)]))

    def test_each_kind_of_definition(self):
        for kind in ("strong", "weak", "common"):
            member = piece_of("m", **{kind: "x"})
            self.assertEqual(told_of([piece_of("a", "x")], [(member,)]), (["m"], [(0, 0, "x", 0)]))
        for kind in ("local", "maybe", "asks"):
            member = piece_of("m", **{kind: "x"})
            self.assertEqual(told_of([piece_of("a", "x")], [(member,)]), ([], []))

    def test_a_name_with_a_definition_is_not_open(self):
        member = piece_of("m", strong="x")
        for kind in ("strong", "weak", "common"):
            defining = piece_of("b", **{kind: "x"})
            self.assertEqual(told_of([piece_of("a", "x"), defining], [(member,)]), ([], []))
            self.assertEqual(told_of([defining, piece_of("a", "x")], [(member,)]), ([], []))
            self.assertEqual(told_of([piece_of("a", "x", **{kind: "x"})], [(member,)]), ([], []))
        for kind in ("local", "maybe"):
            self.assertEqual(told_of([piece_of("a", "x"), piece_of("b", **{kind: "x"})], [(member,)])[0], ["m"])

    def test_a_name_asked_as_maybe_or_local_is_not_open(self):
        member = piece_of("m", strong="x")
        self.assertEqual(told_of([piece_of("a", "x", maybe="x")], [(member,)]), ([], []))
        self.assertEqual(told_of([piece_of("a", "x", local="x")], [(member,)]), ([], []))
        self.assertEqual(told_of([piece_of("a", "x", maybe="x"), piece_of("b", "x")], [(member,)]),
                         (["m"], [(0, 0, "x", 1)]))

    def test_a_name_that_no_item_names_is_not_open(self):
        pieces = [piece_of("a", maybe="x"), piece_of("b", "y")]
        self.assertEqual(told_of(pieces, [(piece_of("m", strong="x"),)]), ([], []))

    def test_a_definition_is_drawn_once(self):
        members = (piece_of("m", weak="x"), piece_of("n", strong="x"), piece_of("o", common="x"))
        for group in (False, True):
            self.assertEqual(told_of([piece_of("a", "x")], [members, members[1:]], group=group),
                             (["m"], [(0, 0, "x", 0)]))

    def test_a_name_that_no_member_has_stays_open(self):
        archives = [(piece_of("m", "z", strong="y"),)]
        self.assertEqual(told_of([piece_of("a", "x y")], archives), (["m"], [(0, 0, "y", 0)]))

    def test_drawn_pieces_ask_too(self):
        members = (piece_of("m", "y", strong="x"), piece_of("n", "z", strong="y"), piece_of("o", strong="z"))
        self.assertEqual(told_of([piece_of("a", "x")], [members]),
                         (["m", "n", "o"], [(0, 0, "x", 0), (0, 1, "y", 1), (0, 2, "z", 2)]))
        self.assertEqual(told_of([piece_of("a", "x")], [members[::-1]]),
                         (["m", "n", "o"], [(0, 2, "x", 0), (0, 1, "y", 1), (0, 0, "z", 2)]))

    def test_a_drawn_piece_has_maybe_and_local_names(self):
        members = (piece_of("m", "y z", strong="x", maybe="y", local="z"), piece_of("n", strong="y z"))
        self.assertEqual(told_of([piece_of("a", "x")], [members]), (["m"], [(0, 0, "x", 0)]))

    def test_the_first_member_again_behind_each_that_is_drawn(self):
        # Behind c the member a is asked, and goes ahead of d, which was asked all the time.
        members = (piece_of("a", strong="p"), piece_of("c", "p", strong="q"), piece_of("d", strong="r"))
        self.assertEqual(told_of([piece_of("s", "q r")], [members]),
                         (["c", "a", "d"], [(0, 1, "q", 0), (0, 0, "p", 1), (0, 2, "r", 0)]))

    def test_an_empty_archive_between(self):
        member = piece_of("m", strong="x")
        for group in (False, True):
            self.assertEqual(told_of([piece_of("a", "x")], [(), (), (member,), ()], group=group),
                             (["m"], [(2, 0, "x", 0)]))

    def test_the_list_begins_with_the_pieces(self):
        pieces = [piece_of("b", "x"), piece_of("a", "y"), piece_of("c")]
        members = (piece_of("n", strong="y"), piece_of("m", strong="x"))
        row, reasons = drawn(pieces, [members])
        self.assertEqual(row, pieces + list(members))
        self.assertEqual(reasons, [(0, 0, "y", 1), (0, 1, "x", 0)])


class Reasons(unittest.TestCase):
    def test_the_least_name(self):
        member = piece_of("m", strong="x10 x2", weak="aa", common="b")
        self.assertEqual(told_of([piece_of("a", "x2 x10 b")], [(member,)])[1], [(0, 0, "b", 0)])
        self.assertEqual(told_of([piece_of("a", "x2 x10")], [(member,)])[1], [(0, 0, "x10", 0)])
        self.assertEqual(told_of([piece_of("a", "x2"), piece_of("b", "aa")], [(member,)])[1], [(0, 0, "aa", 1)])

    def test_the_least_open_name(self):
        member = piece_of("m", strong="b c", weak="a", common="d")
        pieces = [piece_of("p", "a b", maybe="b"), piece_of("q", "c d", weak="a")]
        self.assertEqual(told_of(pieces, [(member,)])[1], [(0, 0, "c", 1)])

    def test_the_least_piece_that_asks_it(self):
        member = piece_of("m", strong="x")
        pieces = [piece_of("a"), piece_of("b", maybe="x"), piece_of("c", "x", maybe="x"), piece_of("d", "x", local="x"),
                  piece_of("e", "x"), piece_of("f", "x")]
        self.assertEqual(told_of(pieces, [(member,)])[1], [(0, 0, "x", 4)])
        self.assertEqual(told_of(pieces[4:], [(member,)])[1], [(0, 0, "x", 0)])

    def test_a_drawn_piece_that_asks_it(self):
        members = (piece_of("m", "y", strong="x"), piece_of("n", "x w", strong="y"), piece_of("o", strong="w"))
        pieces = [piece_of("a"), piece_of("b", "x")]
        self.assertEqual(told_of(pieces, [members])[1], [(0, 0, "x", 1), (0, 1, "y", 2), (0, 2, "w", 3)])

    def test_the_piece_itself_is_not_ahead(self):
        # Both the second piece and the member ask x; a member's own need doesn't draw it.
        members = (piece_of("m", "x", strong="x"), piece_of("n", "y", strong="y"))
        self.assertEqual(told_of([piece_of("a"), piece_of("b", "x")], [members]), (["m"], [(0, 0, "x", 1)]))

    def test_kinds_of_values(self):
        told = drawn([piece_of("a", "x")], [(piece_of("m", strong="x"),)])
        self.assertEqual([told.__class__, told[0].__class__, told[1].__class__], [tuple, list, list])
        self.assertEqual([part.__class__ for part in told[1][0]], [int, int, str, int])
        self.assertIs(told[1][0].__class__, tuple)


class InOrderAndAsAGroup(unittest.TestCase):
    # The second archive asks the first one back.
    ARCHIVES = [(piece_of("a0", strong="back"), piece_of("a1", "deep", strong="front")),
                (piece_of("b0", strong="other"), piece_of("b1", "back", strong="deep"))]
    PIECES = [piece_of("s", "front other")]
    IN_ORDER = (["a1", "b0", "b1"], [(0, 1, "front", 0), (1, 0, "other", 0), (1, 1, "deep", 1)])
    GROUP = (["a1", "b0", "b1", "a0"], [(0, 1, "front", 0), (1, 0, "other", 0), (1, 1, "deep", 1), (0, 0, "back", 3)])

    def test_in_order_no_archive_is_gone_back_to(self):
        self.assertEqual(told_of(self.PIECES, self.ARCHIVES), self.IN_ORDER)
        self.assertEqual(told_of(self.PIECES, self.ARCHIVES, group=False), self.IN_ORDER)

    def test_as_a_group_they_are(self):
        self.assertEqual(told_of(self.PIECES, self.ARCHIVES, group=True), self.GROUP)

    def test_as_a_group_the_first_of_all_is_drawn(self):
        archives = [(piece_of("a", strong="p"),), (piece_of("b", "p", strong="q"), piece_of("c", strong="r"))]
        pieces = [piece_of("s", "q r")]
        self.assertEqual(told_of(pieces, archives, group=True)[0], ["b", "a", "c"])
        self.assertEqual(told_of(pieces, archives)[0], ["b", "c"])

    def test_the_first_of_two_archives_with_a_definition(self):
        for group in (False, True):
            archives = [(piece_of("a"), piece_of("b", weak="x")), (piece_of("c", strong="x"),)]
            self.assertEqual(told_of([piece_of("s", "x")], archives, group=group), (["b"], [(0, 1, "x", 0)]))
            self.assertEqual(told_of([piece_of("s", "x")], archives[::-1], group=group), (["c"], [(0, 0, "x", 0)]))

    def test_archives_in_a_tuple(self):
        self.assertEqual(told_of(self.PIECES, tuple(self.ARCHIVES), group=True), self.GROUP)

    def test_rows_that_each_ask_the_next_one(self):
        members = [piece_of("m" + str(k), "x" + str(k + 1), strong="x" + str(k)) for k in range(30)]
        start = [piece_of("s", "x0")]
        reasons = [(0, k, "x" + str(k), k) for k in range(30)]
        back = [(0, 29 - k, "x" + str(k), k) for k in range(30)]
        for group in (False, True):
            self.assertEqual(drawn(start, [tuple(members)], group=group), (start + members, reasons))
            self.assertEqual(drawn(start, [tuple(members[::-1])], group=group), (start + members, back))

    def test_ten_archives_of_thirty_members(self):
        members = [piece_of("m" + str(k), "x" + str(k + 1), strong="x" + str(k),
                            weak=" ".join(["y" + str(60 * k + j) for j in range(58)])) for k in range(300)]
        self.assertTrue(all(is_piece(member) for member in members))
        start = [piece_of("s", "x0")]
        forward = [tuple(members[30 * k:30 * k + 30]) for k in range(10)]
        reasons = [(k // 30, k % 30, "x" + str(k), k) for k in range(300)]
        for group in (False, True):
            self.assertEqual(drawn(start, forward, group=group), (start + members, reasons))
        back = [tuple(members[30 * k:30 * k + 30]) for k in range(9, -1, -1)]
        self.assertEqual(drawn(start, back), (start + members[:30], [(9, k, "x" + str(k), k) for k in range(30)]))
        reasons = [(9 - k // 30, k % 30, "x" + str(k), k) for k in range(300)]
        self.assertEqual(drawn(start, back, group=True), (start + members, reasons))
        self.assertIs(are_reasons(start, back, reasons, group=True), True)
        self.assertIs(are_reasons(start, back, reasons), False)


class AreReasons(unittest.TestCase):
    PIECES = [piece_of("s", "a"), piece_of("t", "b")]
    ARCHIVES = [(piece_of("m", "c", strong="a"), piece_of("n", strong="b")),
                (piece_of("o", "d", strong="c"), piece_of("p", strong="d"))]
    RIGHT = [(0, 0, "a", 0), (0, 1, "b", 1), (1, 0, "c", 2), (1, 1, "d", 4)]

    def told(self, reasons):
        return are_reasons(self.PIECES, self.ARCHIVES, reasons)

    def test_the_right_ones(self):
        self.assertEqual(drawn(self.PIECES, self.ARCHIVES)[1], self.RIGHT)
        for how in ({}, {"group": False}, {"group": True}):
            self.assertIs(are_reasons(self.PIECES, self.ARCHIVES, list(self.RIGHT), **how), True)
        self.assertIs(are_reasons([], [], []), True)
        self.assertIs(are_reasons(self.PIECES, [], []), True)

    def test_those_of_a_group(self):
        pieces, archives = InOrderAndAsAGroup.PIECES, InOrderAndAsAGroup.ARCHIVES
        in_order, group = InOrderAndAsAGroup.IN_ORDER[1], InOrderAndAsAGroup.GROUP[1]
        self.assertIs(are_reasons(pieces, archives, in_order), True)
        self.assertIs(are_reasons(pieces, archives, in_order, group=False), True)
        self.assertIs(are_reasons(pieces, archives, in_order, group=True), False)
        self.assertIs(are_reasons(pieces, archives, group), False)
        self.assertIs(are_reasons(pieces, archives, group, group=False), False)
        self.assertIs(are_reasons(pieces, archives, group, group=True), True)

    def test_one_less_or_more(self):
        for k in range(len(self.RIGHT)):
            self.assertIs(self.told(self.RIGHT[:k] + self.RIGHT[k + 1:]), False)
            self.assertIs(self.told(self.RIGHT[:k] + self.RIGHT[k:k + 1] + self.RIGHT[k:]), False)
        self.assertIs(self.told([]), False)
        self.assertIs(are_reasons(self.PIECES, [], [(0, 0, "a", 0)]), False)

    def test_another_order(self):
        self.assertIs(self.told(self.RIGHT[::-1]), False)
        for one in range(4):
            for other in range(one):
                reasons = list(self.RIGHT)
                reasons[one], reasons[other] = reasons[other], reasons[one]
                self.assertIs(self.told(reasons), False)

    def test_one_part_otherwise(self):
        for at, right in enumerate(self.RIGHT):
            for k, part in enumerate(right):
                others = ["e", "", "aa"] if isinstance(part, str) else [part + 1, part - 1, str(part), 10 ** 59]
                for other in others + [None, (part,), [part]]:
                    reasons = list(self.RIGHT)
                    reasons[at] = right[:k] + (other,) + right[k + 1:]
                    with self.subTest(reasons[at]):
                        self.assertIs(self.told(reasons), False)

    def test_truths_in_the_place_of_numbers(self):
        for at, right in enumerate(self.RIGHT):
            for k, part in enumerate(right):
                if part in (0, 1):
                    reasons = list(self.RIGHT)
                    reasons[at] = right[:k] + (part == 1,) + right[k + 1:]
                    with self.subTest(reasons[at]):
                        self.assertEqual(reasons, self.RIGHT)
                        self.assertIs(self.told(reasons), False)

    def test_empty_and_other_tuples(self):
        for at, right in enumerate(self.RIGHT):
            for row in ((), right[:3], right + (0,), right[::-1], (right,), (right[1], right[0]) + right[2:] + (1,)):
                reasons = list(self.RIGHT)
                reasons[at] = row
                with self.subTest(row):
                    self.assertIs(self.told(reasons), False)


class HandedIn(unittest.TestCase):
    def test_nothing_is_changed(self):
        pieces, archives = list(AreReasons.PIECES), list(AreReasons.ARCHIVES)
        reasons = list(AreReasons.RIGHT)
        before = copy.deepcopy((pieces, archives, reasons))
        for group in (False, True):
            drawn(pieces, archives, group=group)
            are_reasons(pieces, archives, reasons, group=group)
        self.assertEqual((pieces, archives, reasons), before)

    def test_each_list_is_a_new_one(self):
        pieces = list(AreReasons.PIECES)
        row, reasons = drawn(pieces, AreReasons.ARCHIVES)
        row.append("more")
        reasons.clear()
        self.assertEqual(pieces, AreReasons.PIECES)
        self.assertEqual(drawn(pieces, AreReasons.ARCHIVES)[1], AreReasons.RIGHT)
        alone, _ = drawn(pieces, [])
        alone.append("more")
        self.assertEqual(pieces, AreReasons.PIECES)


def plainly_drawn(pieces, archives, group):
    """What point 9 tells, worked out anew ahead of each member."""
    named = {"place": 2, "call": 1, "jump": 1, "when": 2, "at": 1}
    row, reasons, taken = list(pieces), [], []

    def binding(piece, name):
        return {own: kind for own, kind, _ in piece[2]}.get(name)

    def asks(piece, name):
        items = [item for section in piece[1] for item in section[3]]
        named_there = [item[named[item[0]]] for item in items if item[0] in named]
        return name in named_there and binding(piece, name) not in ("local", "maybe")

    def drawn_for(member):
        names = [name for name, kind, _ in member[2] if kind in ("strong", "weak", "common")]
        names = [name for name in names if any(asks(piece, name) for piece in row)]
        names = [name for name in names
                 if not any(binding(piece, name) in ("strong", "weak", "common") for piece in row)]
        return min(names, default=None)

    def one_from(numbers):
        for number in numbers:
            for at, member in enumerate(archives[number]):
                name = drawn_for(member)
                if (number, at) not in taken and name is not None:
                    asker = [k for k, piece in enumerate(row) if asks(piece, name)][0]
                    reasons.append((number, at, name, asker))
                    taken.append((number, at))
                    row.append(member)
                    return True
        return False

    parts = [list(range(len(archives)))] if group else [[k] for k in range(len(archives))]
    for part in parts:
        while one_from(part):
            pass
    return row, reasons


class ByChance(unittest.TestCase):
    def piece(self, chance, name):
        names = ["x" + str(k) for k in range(14)]
        kinds = {word: chance.choice(["strong", "weak", "common", "local", "maybe", "maybe"])
                 for word in chance.sample(names, chance.choice([0, 1, 2, 4]))}
        rows = {kind: " ".join([word for word in kinds if kinds[word] == kind]) for kind in set(kinds.values())}
        return piece_of(name, " ".join(chance.choices(names, k=chance.choice([0, 1, 2, 3]))), **rows)

    def test_each_tells_what_is_told(self):
        chance = random.Random(5)
        many = 0
        for _ in range(1500):
            pieces = [self.piece(chance, "p" + str(k)) for k in range(chance.randint(0, 4))]
            archives = [tuple([self.piece(chance, "m" + str(10 * j + k)) for k in range(chance.randint(0, 6))])
                        for j in range(chance.randint(0, 4))]
            unlike = drawn(pieces, archives)[1] != drawn(pieces, archives, group=True)[1]
            many += unlike
            for group in (False, True):
                right = plainly_drawn(pieces, archives, group)
                self.assertEqual(drawn(pieces, archives, group=group), right)
                self.assertIs(are_reasons(pieces, archives, right[1], group=group), True)
                self.assertIs(are_reasons(pieces, archives, right[1], group=not group), not unlike)
        self.assertGreater(many, 30)


class Interface(unittest.TestCase):
    def test_arguments_by_name(self):
        pieces, archives = AreReasons.PIECES, AreReasons.ARCHIVES
        self.assertEqual(drawn(group=False, archives=archives, pieces=pieces)[1], AreReasons.RIGHT)
        self.assertIs(are_reasons(group=True, reasons=AreReasons.RIGHT, archives=archives, pieces=pieces), True)

    def test_group_by_name_alone(self):
        with self.assertRaises(TypeError):
            drawn([], [], True)
        with self.assertRaises(TypeError):
            are_reasons([], [], [], True)

    def test_each_is_defined_in_its_file(self):
        for word in ("drawn", "are_reasons"):
            self.assertEqual(getattr(archive_file, word).__module__, "weldmill.archives")


if __name__ == "__main__":
    unittest.main()
