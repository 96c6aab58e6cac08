"""Images: rows of numbers that a machine runs, how items are encoded in them, and how they are made."""

from weldmill.choice import NO_PIECE, choose, start_place
from weldmill.errors import Missing, TooGreat
from weldmill.leaving import kept
from weldmill.lengths import NEAR_BOUNDS, far_ones, layout_with, sizes_with
from weldmill.pieces import BOUNDS, FORMS
from weldmill.places import all_holders, is_common, is_in_code, section_of

MOST_CELLS = 20000

# The word of each op; of an instruction with two forms the near one's op stands ahead of the far one's.
WORDS = (
    "halt", "set", "copy", "add", "less", "times", "load", "store", "place", "place", "call", "call", "jump", "jump",
    "when", "when", "back", "tell", "enter",
)
FAR_OPS = (9, 11, 13, 15)

# By how much the registers and the number are multiplied in a first cell; each op is below the first of these.
R_BASE = 32
S_BASE = 256
NUMBER_BASE = 2048

# What is added to the number that an instruction has in its first cell, so that it isn't below 0.
SHIFTS = {"load": 128, "store": 128, "place": 0, "call": 128, "jump": 128, "when": 128}


class Image:
    """A row of cells, the address at which a machine starts, and the holders with their addresses, in order."""

    def __init__(self, cells, start, rows):
        self.cells = list(cells)
        self.start = start
        self.rows = list(rows)

    def __eq__(self, other):
        if not isinstance(other, Image):
            return False
        return self.cells == other.cells and self.start == other.start and self.rows == other.rows

    def __len__(self):
        return len(self.cells)

    def __repr__(self):
        return f"Image({len(self.cells)} cells, start {self.start})"


def encode(item, far=False):
    """The cells of the item, which has numbers for names."""
    word, *parts = item
    if word == "room":
        return [0] * parts[0]
    if word not in WORDS:
        return [sum(parts)]
    many = registers_many(word)
    # A sum, as an address may stand alone or with the item's k, so much more, behind it.
    number = sum(parts[many:])
    is_far = far and word in NEAR_BOUNDS
    first = WORDS.index(word) + (1 if is_far else 0)
    for base, part in zip((R_BASE, S_BASE), parts[:many]):
        first += base * part
    if word == "set" or is_far:
        return [first, number]
    if word in SHIFTS:
        return [first + NUMBER_BASE * (number + SHIFTS[word])]
    return [first]


def registers_many(word):
    """How many registers an instruction of this word has."""
    return FORMS[word].count("register")


def decode(one, other):
    """The instruction that a number, with the one behind it, encodes, and how many cells it has; or None."""
    op, r, s, number = one % R_BASE, one // R_BASE % 8, one // S_BASE % 8, one // NUMBER_BASE
    if op >= len(WORDS):
        return None
    word = WORDS[op]
    many = registers_many(word)
    if (many < 2 and s != 0) or (many < 1 and r != 0):
        return None
    item = (word, r, s)[:many + 1]
    if word in SHIFTS and op not in FAR_OPS:
        number -= SHIFTS[word]
        least, greatest = NEAR_BOUNDS[word] if word in NEAR_BOUNDS else BOUNDS["small"]
        return (item + (number,), 1) if least <= number <= greatest else None
    if number != 0:
        return None
    return (item + (other,), 2) if word == "set" or op in FAR_OPS else (item, 1)


def fetched(cells, at):
    """The instruction at the address of the cells, and how many of them it has; None where there is none."""
    if not 1 <= at < len(cells):
        return None
    return decode(cells[at], cells[at + 1] if at + 1 < len(cells) else 0)


def link(pieces, start, *, keep=(), leave=True, most=MOST_CELLS):
    """The image of the pieces; Doubled, Missing or Skewed, and TooGreat where it would have more cells than most."""
    choice = choose(pieces)
    place = start_place(pieces, choice, start)
    for name in keep:
        if choice.get(name, ("none",))[0] == "none":
            raise Missing(name, NO_PIECE)
    holders = kept(pieces, choice, start, keep=keep) if leave else all_holders(pieces, choice)
    order = code_ahead(pieces, holders)
    far, _ = far_ones(pieces, choice, order)
    layout = layout_with(pieces, choice, order, sizes_with(pieces, order, far))
    if layout.end > most:
        raise TooGreat(most)
    return Image(all_cells(layout), layout.number_of(place), list(layout.addresses.items()))


def code_ahead(pieces, holders):
    """The holders, those of code ahead of all others."""
    code = [holder for holder in holders if is_in_code(pieces, holder)]
    return code + [holder for holder in holders if not is_in_code(pieces, holder)]


def all_cells(layout):
    """The cells of an image that is laid so."""
    cells = [0] * layout.end
    for holder, address in layout.addresses.items():
        own = code_cells(layout, holder) if holder in layout.marks else data_cells(layout, holder)
        cells[address:address + len(own)] = own
    return cells


def code_cells(layout, holder):
    """The cells of the section of code, each instruction of the form for which the layout has room."""
    marks = layout.marks[holder]
    cells = []
    for k, item in enumerate(section_of(layout.pieces, holder)[3]):
        numbered = layout.numbered(holder[0], item, marks[k])
        cells.extend(encode(numbered, marks[k + 1] - marks[k] == 2))
    return cells


def data_cells(layout, holder):
    """The cells of the section of data, or of the common."""
    if is_common(holder):
        return [0] * layout.choice[holder[1]][1]
    cells = []
    for item in section_of(layout.pieces, holder)[3]:
        cells.extend(encode(layout.numbered(holder[0], item, 0)))
    return cells
