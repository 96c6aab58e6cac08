"""The machine: points [2] and [17]."""

import copy
import random
import unittest

from weldmill import machine
from weldmill.images import Image, decode, encode
from weldmill.machine import run_image, state_of_image
from weldmill.names import MOST_STEPS

TEN_30 = 10 ** 30
TEN_9 = 10 ** 9
NOUGHTS = [0] * 8


def image_of(*items, data=(), start=1, far=()):
    """An image of these items from address 1 on, those with a number in far as far ones, and the data behind them."""
    cells = [0]
    for k, item in enumerate(items):
        cells += encode(item, k in far)
    return Image(cells + list(data), start, [])


def ran(*items, most=MOST_STEPS, **more):
    return run_image(image_of(*items, **more), most=most)


def state(*items, most=MOST_STEPS, **more):
    return state_of_image(image_of(*items, **more), most=most)


def told(*items, **more):
    """What is told by a run that halts behind these items."""
    tells, _, how = ran(*items, ("halt",), **more)
    if how != "halt":
        raise AssertionError(how)
    return tells


def sets(r, n):
    """An instruction by which the register gets any number."""
    return ("set", r, n)


class AtFirst(unittest.TestCase):
    def test_nothing_done(self):
        image = Image([5, 17, 0], 1, [((0, 0), 1)])
        self.assertEqual(run_image(image, most=0), ([], 0, "on"))
        self.assertEqual(state_of_image(image, most=0), (1, NOUGHTS, [], [5, 17, 0]))
        for start in (0, -1, 3, 99):
            self.assertEqual(run_image(Image([5, 17, 0], start, []), most=0), ([], 0, "on"))
            self.assertEqual(state_of_image(Image([5, 17, 0], start, []), most=0), (start, NOUGHTS, [], [5, 17, 0]))

    def test_starts(self):
        for start, right in ((1, ([0, 0], 3, "halt")), (2, ([0], 2, "halt")), (3, ([], 1, "halt")), (4, ([], 0, "end")),
                             (0, ([], 0, "end")), (-1, ([], 0, "end")), (-3, ([], 0, "end")), (TEN_30, ([], 0, "end")),
                             (-TEN_30, ([], 0, "end"))):
            self.assertEqual(ran(("tell", 0), ("tell", 0), ("halt",), start=start), right, start)

    def test_images_without_cells(self):
        for start in (0, 1, -1, 2):
            self.assertEqual(run_image(Image([], start, [])), ([], 0, "end"))
            self.assertEqual(state_of_image(Image([], start, [])), (start, NOUGHTS, [], []))
            self.assertEqual(run_image(Image([0], start, [])), ([], 0, "end"))
        self.assertEqual(run_image(Image([0, 0], 1, [])), ([], 1, "halt"))
        self.assertEqual(run_image(Image([0, 0], 0, [])), ([], 0, "end"))

    def test_rows_do_not_matter(self):
        for rows in ([], [((0, 0), 1)], [((9, 9), -4), (("common", "x"), 7)]):
            self.assertEqual(run_image(Image([0, 17, 0], 1, rows)), ([0], 2, "halt"))


class Instructions(unittest.TestCase):
    def test_set_and_tell(self):
        for r in range(8):
            for n in (0, 1, -1, TEN_9, TEN_30, -TEN_30, TEN_30 + 1, 10 ** 50):
                self.assertEqual(told(sets(r, n), ("tell", r), ("tell", (r + 1) % 8)), [n, 0])

    def test_set_takes_two_cells(self):
        self.assertEqual(state(sets(3, 5), most=1), (3, [0, 0, 0, 5, 0, 0, 0, 0], [], [0, 97, 5]))

    def test_copy(self):
        self.assertEqual(told(sets(1, 5), sets(2, 6), ("copy", 1, 2), ("tell", 1), ("tell", 2)), [6, 6])
        self.assertEqual(told(sets(1, 5), ("copy", 1, 1), ("tell", 1)), [5])

    def test_add_less_times(self):
        for x, y in ((5, 3), (-5, 3), (5, -3), (0, 7), (TEN_9, TEN_9), (10 ** 29, 5)):
            for word, right in (("add", x + y), ("less", x - y), ("times", x * y)):
                self.assertEqual(told(sets(1, x), sets(2, y), (word, 1, 2), ("tell", 1), ("tell", 2)), [right, y])
        self.assertEqual(told(sets(1, 5), ("add", 1, 1), ("tell", 1), ("less", 1, 1), ("tell", 1)), [10, 0])

    def test_load(self):
        image = (sets(1, 8), ("load", 2, 1, 0), ("tell", 2), ("load", 2, 1, 1), ("tell", 2), ("halt",))
        self.assertEqual(ran(*image, data=(55, 66))[0], [55, 66])
        self.assertEqual(told(sets(1, 100), ("load", 2, 1, -99), ("tell", 2)), [33])
        self.assertEqual(told(sets(1, -98), ("load", 2, 1, 99), ("tell", 2)), [33])

    def test_store(self):
        at, registers, pile, cells = state(sets(1, 8), sets(2, -7), ("store", 2, 1, 0), ("store", 2, 1, 1), ("halt",),
                                           data=(55, 66))
        self.assertEqual((at, registers, pile), (7, [0, 8, -7, 0, 0, 0, 0, 0], []))
        self.assertEqual(cells[7:], [0, -7, -7])
        self.assertEqual(cells[:7], [0, 33, 8, 65, -7, 7 + 64 + 256 + 2048 * 128, 7 + 64 + 256 + 2048 * 129])

    def test_the_bounds_of_load_and_store(self):
        for word in ("load", "store"):
            for address, k, right in ((1, 0, "halt"), (4, 0, "halt"), (0, 0, "reach"), (-1, 0, "reach"),
                                      (5, 0, "reach"), (0, 1, "halt"), (5, -1, "halt"), (1, -1, "reach"),
                                      (4, 1, "reach"),
                                      (-4, 0, "reach"), (TEN_30, 0, "reach"), (-TEN_30, 99, "reach"),
                                      (100, -96, "halt"),
                                      (100, -95, "reach"), (-95, 99, "halt"), (-99, 99, "reach")):
                image = image_of(sets(1, address), (word, 2, 1, k), ("halt",))
                self.assertEqual(len(image), 5)
                tells, steps, how = run_image(image)
                self.assertEqual((tells, steps, how), ([], 1 if right == "reach" else 3, right), (word, address, k))

    def test_places(self):
        for a in (0, 1, 255):
            self.assertEqual(told(("place", 5, a), ("tell", 5)), [a])
        for a in (0, 256, -4, TEN_30, TEN_30 * 10):
            self.assertEqual(told(("place", 5, a), ("tell", 5), far=(0,)), [a])
        self.assertEqual(state(("place", 5, 9), ("halt",), most=1)[0], 2)
        self.assertEqual(state(("place", 5, 9), ("halt",), most=1, far=(0,))[0], 3)

    def test_call_and_back(self):
        items = (("call", 3), ("tell", 1), ("halt",), sets(1, 4), ("back",))
        self.assertEqual(ran(*items), ([4], 5, "halt"))
        self.assertEqual(state(*items, most=1), (4, NOUGHTS, [2], image_of(*items).cells))
        self.assertEqual(state(*items, most=2)[2], [2])
        self.assertEqual(state(*items, most=3)[0], 2)
        self.assertEqual(state(*items, most=3)[2], [])
        far = (("call", 4),) + items[1:]
        self.assertEqual(ran(*far, far=(0,)), ([4], 5, "halt"))
        self.assertEqual(state(*far, far=(0,), most=1)[::2], (5, [3]))

    def test_enter(self):
        items = (sets(1, 5), ("enter", 1), ("halt",), ("tell", 1), ("back",))
        self.assertEqual(ran(*items), ([5], 5, "halt"))
        self.assertEqual(state(*items, most=2)[::2], (5, [4]))
        for address in (0, -1, 99, TEN_30):
            self.assertEqual(ran(sets(1, address), ("enter", 1)), ([], 2, "end"))
            self.assertEqual(state(sets(1, address), ("enter", 1))[::2], (address, [4]))

    def test_jump(self):
        self.assertEqual(ran(("jump", 2), ("tell", 0), ("halt",)), ([], 2, "halt"))
        self.assertEqual(ran(("jump", 2), ("halt",), ("tell", 0), ("jump", -2)), ([0], 4, "halt"))
        self.assertEqual(ran(("jump", 3), ("halt",), ("tell", 0), ("jump", -2), far=(0, 3))[1], 4)
        self.assertEqual(ran(("jump", 0), most=50), ([], 50, "on"))
        self.assertEqual(ran(("jump", 0), most=50, far=(0,)), ([], 50, "on"))
        for distance in (-1, 1, 5, -9):
            self.assertEqual(ran(("jump", distance)), ([], 1, "end"))
        for distance in (TEN_30, -TEN_30, 2):
            self.assertEqual(ran(("jump", distance), far=(0,)), ([], 1, "end"))

    def test_when(self):
        for n, right in ((0, [0]), (1, [0, 0]), (-1, [0, 0]), (TEN_30, [0, 0])):
            items = (sets(1, n), ("when", 1, 2), ("halt",), ("tell", 0), ("tell", 0), ("halt",))
            self.assertEqual(ran(*items)[0], right if n else [])
            self.assertEqual(ran(items[0], ("when", 1, 3), *items[2:], far=(1,))[0], right if n else [])
        self.assertEqual(ran(("when", 0, 0), ("halt",)), ([], 2, "halt"))
        self.assertEqual(ran(("when", 0, 0), ("halt",), far=(0,)), ([], 2, "halt"))
        self.assertEqual(ran(sets(0, 1), ("when", 0, 0), most=9), ([], 9, "on"))

    def test_halt_stays(self):
        self.assertEqual(ran(("halt",), ("tell", 0), ("halt",)), ([], 1, "halt"))
        self.assertEqual(state(("halt",), ("tell", 0), ("halt",)), (1, NOUGHTS, [], [0, 0, 17, 0]))
        self.assertEqual(ran(("halt",), most=1), ([], 1, "halt"))


def keeps(many):
    """Items that keep so many places and halt, of numbers 0 to 6."""
    return (sets(6, many), sets(5, 1), ("call", 1), ("less", 6, 5), ("when", 6, -2), ("halt",))


class Faults(unittest.TestCase):
    def test_end(self):
        self.assertEqual(ran(), ([], 0, "end"))
        self.assertEqual(ran(("tell", 0)), ([0], 1, "end"))
        self.assertEqual(ran(("tell", 0), most=1), ([0], 1, "on"))
        self.assertEqual(ran(sets(0, 1)), ([], 1, "end"))
        self.assertEqual(state(("tell", 0))[0], 2)

    def test_a_two_cell_instruction_at_the_last_cell(self):
        for op, r, right in ((1, 3, 0), (9, 3, 0)):
            image = Image([0, op + 32 * r], 1, [])
            self.assertEqual(run_image(image), ([], 1, "end"))
            self.assertEqual(state_of_image(image), (3, [0] * 8, [], [0, op + 32 * r]))
        image = Image([0, 1 + 32, 6, 17 + 32, 1 + 32], 1, [])
        self.assertEqual(run_image(image), ([6], 3, "end"))
        self.assertEqual(state_of_image(image), (6, [0] * 8, [], image.cells))
        self.assertEqual(run_image(Image([0, 13], 1, []), most=40), ([], 40, "on"))
        self.assertEqual(run_image(Image([0, 15], 1, [])), ([], 1, "end"))
        self.assertEqual(run_image(Image([0, 11], 1, [])), ([], 200, "deep"))

    def test_odd(self):
        for number in (19, 31, -1, -TEN_30, 32, 2048, 2 + 2048, 256, 17 + 256, 10 + 32 + 2048 * 128, 8 + 2048 * 256, 10,
                       10 + 2048 * 63, 10 + 2048 * 192, 6 + 2048 * 28, 6 + 2048 * 228, TEN_30):
            self.assertIsNone(decode(number, 0))
            self.assertEqual(run_image(Image([0, 17, number], 1, [])), ([0], 1, "odd"))
            self.assertEqual(run_image(Image([0, number, 0], 1, [])), ([], 0, "odd"))
            self.assertEqual(run_image(Image([0, number, 0], 1, []), most=0), ([], 0, "on"))

    def test_great(self):
        for x, y, word in ((TEN_30, 1, "add"), (-TEN_30, -1, "add"), (TEN_30, -1, "less"), (-TEN_30, 1, "less"),
                           (10 ** 15, 10 ** 15 + 1, "times"), (-10 ** 15, 10 ** 15 + 1, "times"),
                           (TEN_30, TEN_30, "add"),
                           (TEN_30 + 1, 0, "add"), (TEN_30 + 1, 1, "times"), (-TEN_30 - 1, 0, "less")):
            items = (sets(1, x), sets(2, y), (word, 1, 2), ("halt",))
            self.assertEqual(ran(*items), ([], 2, "great"), items)
            self.assertEqual(state(*items)[:2], (5, [0, x, y, 0, 0, 0, 0, 0]))
        for x, y, word, right in ((TEN_30 - 1, 1, "add", TEN_30), (1 - TEN_30, -1, "add", -TEN_30),
                                  (TEN_30, 0, "add", TEN_30), (TEN_30 + 1, -1, "add", TEN_30),
                                  (1 - TEN_30, 1, "less", -TEN_30), (TEN_30 + 1, 1, "less", TEN_30),
                                  (10 ** 15, 10 ** 15, "times", TEN_30), (-10 ** 15, 10 ** 15, "times", -TEN_30),
                                  (TEN_30 + 1, 0, "times", 0), (10 ** 18, 10, "times", 10 ** 19)):
            self.assertEqual(told(sets(1, x), sets(2, y), (word, 1, 2), ("tell", 1)), [right])

    def test_empty(self):
        self.assertEqual(ran(("tell", 0), ("back",)), ([0], 1, "empty"))
        self.assertEqual(ran(("call", 1), ("back",)), ([], 2, "empty"))
        self.assertEqual(state(("call", 1), ("back",))[::2], (2, []))

    def test_deep(self):
        self.assertEqual(ran(*keeps(200))[1:], (603, "halt"))
        self.assertEqual(state(*keeps(200))[2], [6] * 200)
        self.assertEqual(ran(*keeps(201))[1:], (602, "deep"))
        self.assertEqual(state(*keeps(201))[:3], (5, [0, 0, 0, 0, 0, 1, 1, 0], [6] * 200))
        self.assertEqual(ran(sets(1, 3), ("enter", 1)), ([], 201, "deep"))
        self.assertEqual(ran(("call", 0), far=(0,)), ([], 200, "deep"))
        self.assertEqual(ran(("call", 0), most=200), ([], 200, "on"))
        self.assertEqual(ran(("call", 0), most=201), ([], 200, "deep"))

    def test_a_fault_changes_nothing(self):
        for items in ((("load", 1, 0, 0),), (("store", 1, 0, 0),), (("back",),), (sets(1, TEN_30), ("add", 1, 1))):
            image = image_of(*items)
            _, steps, _ = run_image(image)
            self.assertEqual(steps, len(items) - 1)
            self.assertEqual(state_of_image(image), state_of_image(image, most=steps))
            self.assertEqual(state_of_image(image)[3], image.cells)


class StoredCells(unittest.TestCase):
    def test_they_run(self):
        items = (sets(1, 17 + 64), sets(2, 9), ("place", 3, 7), ("store", 1, 3, 0), ("halt",), ("halt",))
        self.assertEqual(ran(*items), ([9], 6, "halt"))
        self.assertEqual(state(*items)[3][7], 17 + 64)

    def test_a_second_cell(self):
        items = (sets(1, 44), ("place", 3, 6), ("store", 1, 3, 0), sets(2, 5), ("tell", 2), ("halt",))
        self.assertEqual(ran(*items), ([44], 6, "halt"))

    def test_an_odd_one(self):
        items = (sets(1, -5), ("place", 3, 5), ("store", 1, 3, 0), ("halt",))
        self.assertEqual(ran(*items), ([], 3, "odd"))

    def test_a_loaded_instruction(self):
        items = (sets(1, 1), ("load", 2, 1, 0), ("tell", 2), ("halt",))
        self.assertEqual(ran(*items)[0], [33])

    def test_data_run(self):
        self.assertEqual(ran(sets(5, -6), ("jump", 1), data=(17 + 160, 0)), ([-6], 4, "halt"))


class Most(unittest.TestCase):
    ROUND = (sets(1, 1), ("add", 0, 1), ("tell", 0), ("jump", -2))

    def test_each_number_of_steps(self):
        for most in range(30):
            tells, steps, how = ran(*self.ROUND, most=most)
            self.assertEqual((tells, steps, how), (list(range(1, 1 + (most // 3))), most, "on"))
        self.assertEqual(ran(*self.ROUND, most=3000)[1:], (3000, "on"))
        self.assertEqual(run_image(image_of(*self.ROUND))[1:], (3000, "on"))
        self.assertEqual(run_image(image_of(*self.ROUND))[0], list(range(1, 1001)))
        self.assertEqual(state_of_image(image_of(*self.ROUND))[1][0], 1000)
        self.assertEqual(ran(*self.ROUND, most=3001)[1], 3001)

    def test_a_halt_at_the_last_step(self):
        for most, right in ((1, ([0], 1, "on")), (2, ([0], 2, "halt")), (3, ([0], 2, "halt"))):
            self.assertEqual(ran(("tell", 0), ("halt",), most=most), right)


def plain_machine(image, most):
    """What point 17 tells, step by step; (told, state)."""
    cells, at, held, pile, tells, steps, how = list(image.cells), image.start, [0] * 8, [], [], 0, "on"
    while how == "on" and steps < most:
        if at not in range(1, len(cells)):
            how = "end"
            break
        row = decode(cells[at], (cells + [0])[at + 1])
        if row is None:
            how = "odd"
            break
        item, size = row
        word, after = item[0], at + size
        r = item[1] if len(item) > 1 and word not in ("call", "jump") else None
        if word in ("set", "place"):
            held[r] = item[2]
        elif word == "copy":
            held[r] = held[item[2]]
        elif word in ("add", "less", "times"):
            x, y = held[r], held[item[2]]
            number = {"add": x + y, "less": x - y, "times": x * y}[word]
            if abs(number) > TEN_30:
                how = "great"
                break
            held[r] = number
        elif word in ("load", "store"):
            address = held[item[2]] + item[3]
            if address not in range(1, len(cells)):
                how = "reach"
                break
            if word == "load":
                held[r] = cells[address]
            else:
                cells[address] = held[r]
        elif word in ("call", "enter"):
            if len(pile) >= 200:
                how = "deep"
                break
            pile.append(after)
            after = held[r] if word == "enter" else at + item[1]
        elif word == "jump" or word == "when" and held[r] != 0:
            after = at + item[-1]
        elif word == "back":
            if not pile:
                how = "empty"
                break
            after = pile.pop()
        elif word == "tell":
            tells.append(held[r])
        elif word == "halt":
            how, after = "halt", at
        at = after
        steps += 1
    return (tells, steps, how), (at, held, pile, cells)


class ByChance(unittest.TestCase):
    def item(self, chance):
        r, s = chance.randrange(4), chance.randrange(4)
        word = chance.choice(["set", "copy", "add", "less", "times", "load", "store", "place", "call", "jump", "when",
                              "when", "enter", "back", "tell", "tell", "halt"])
        rest = {"set": (r, chance.choice([0, 1, 2, 5, 9, 17, -1, 2049, TEN_30])),
                "load": (r, s, chance.choice([0, 1, 5])),
                "store": (r, s, chance.choice([0, 1, 5])), "place": (r, chance.randint(0, 20)),
                "call": (chance.randint(-5, 6),), "jump": (chance.randint(-5, 6),), "when": (r, chance.randint(-5, 6)),
                "enter": (r,), "back": (), "tell": (r,), "halt": ()}
        return (word,) + rest.get(word, (r, s))

    def test_each_run_is_as_told(self):
        chance = random.Random(17)
        seen = {}
        for _ in range(4000):
            items = [self.item(chance) for _ in range(chance.choice([1, 5, 10, 20]))]
            data = [chance.randint(-1, 40) for _ in range(chance.randint(0, 3))]
            far = [k for k in range(20) if chance.random() < 0.2]
            image = image_of(*items, data=data, start=chance.choice([1, 1, 1, 2, 3, 0]), far=far)
            for most in (0, chance.randint(1, 25), 700):
                right, state_right = plain_machine(image, most)
                self.assertEqual(run_image(image, most=most), right)
                self.assertEqual(state_of_image(image, most=most), state_right)
            seen[right[2]] = seen.get(right[2], 0) + 1
        self.assertEqual(sorted(seen), ["deep", "empty", "end", "great", "halt", "odd", "on", "reach"])


class HandedIn(unittest.TestCase):
    def test_nothing_is_changed(self):
        image = image_of(sets(1, 3), ("store", 1, 1, 0), ("halt",))
        before = copy.deepcopy((image.cells, image.start, image.rows))
        run_image(image)
        _, _, _, cells = state_of_image(image)
        self.assertNotEqual(cells, image.cells)
        self.assertEqual((image.cells, image.start, image.rows), before)

    def test_each_list_is_a_new_one(self):
        image = image_of(("tell", 1), ("call", 1), ("halt",))
        for tell in (run_image, state_of_image):
            first = tell(image)
            right = copy.deepcopy(first)
            for part in first:
                if isinstance(part, list):
                    part.append(77)
            self.assertEqual(tell(image), right)


class Interface(unittest.TestCase):
    def test_arguments_by_name(self):
        image = image_of(("tell", 0), ("halt",))
        self.assertEqual(run_image(most=1, image=image), ([0], 1, "on"))
        self.assertEqual(state_of_image(most=1, image=image)[0], 2)
        self.assertEqual(run_image(image), ([0], 2, "halt"))
        self.assertEqual(state_of_image(image=image)[0], 2)

    def test_most_by_name_alone(self):
        for tell in (run_image, state_of_image):
            with self.assertRaises(TypeError):
                tell(image_of(("halt",)), 5)

    def test_kinds_of_values(self):
        told_row, state_row = ran(("halt",)), state(("halt",))
        self.assertEqual([told_row.__class__] + [part.__class__ for part in told_row], [tuple, list, int, str])
        self.assertEqual([state_row.__class__] + [part.__class__ for part in state_row], [tuple, int, list, list, list])

    def test_each_is_defined_in_its_file(self):
        for word in ("run_image", "state_of_image"):
            self.assertEqual(getattr(machine, word).__module__, "weldmill.machine")


if __name__ == "__main__":
    unittest.main()
