"""Names, sections and pieces: what is one, what a piece asks, how long a section is."""

LETTERS = "abcdefghijklmnopqrstuvwxyz"
NAME_SIGNS = "abcdefghijklmnopqrstuvwxyz0123456789"
LONGEST_NAME = 16

MOST_SECTIONS = 8
MOST_ITEMS = 200
MOST_SYMBOLS = 60

UNITS = {"code": (1,), "data": (1, 2, 4, 8)}

# The least and the greatest number that each part of an item may be.
BOUNDS = {
    "register": (0, 7),
    "small": (-99, 99),
    "little": (0, 99),
    "plain": (-1000000000, 1000000000),
    "room": (0, 500),
}
LEAST_COMMON = 1
GREATEST_COMMON = 500

# For each item's first part: the kind of section that takes it, then what its other parts are.
FORMS = {
    "set": ("code", "register", "plain"),
    "copy": ("code", "register", "register"),
    "add": ("code", "register", "register"),
    "less": ("code", "register", "register"),
    "times": ("code", "register", "register"),
    "load": ("code", "register", "register", "small"),
    "store": ("code", "register", "register", "small"),
    "place": ("code", "register", "name", "little"),
    "call": ("code", "name"),
    "jump": ("code", "name"),
    "when": ("code", "register", "name"),
    "enter": ("code", "register"),
    "back": ("code",),
    "tell": ("code", "register"),
    "halt": ("code",),
    "cell": ("data", "plain"),
    "at": ("data", "name", "little"),
    "room": ("data", "room"),
}

# Which part of an item is the name that it names, where it names one.
NAMED_PART = {"place": 2, "call": 1, "jump": 1, "when": 2, "at": 1}


def is_name(thing):
    """Whether the thing is a name."""
    if not isinstance(thing, str) or not 1 <= len(thing) <= LONGEST_NAME:
        return False
    return thing[0] in LETTERS and all([sign in NAME_SIGNS for sign in thing])


def is_within(thing, least, greatest):
    """Whether the thing is a whole number, no truth, from the least to the greatest."""
    return isinstance(thing, int) and not isinstance(thing, bool) and least <= thing <= greatest


def is_row(thing, most):
    """Whether the thing is a tuple of at most so many."""
    return isinstance(thing, tuple) and len(thing) <= most


def is_tuple_of(thing, many):
    """Whether the thing is a tuple of just so many."""
    return isinstance(thing, tuple) and len(thing) == many


def is_part(thing, part):
    """Whether the thing is such a part of an item: a name, or a number within the part's bounds."""
    if part == "name":
        return is_name(thing)
    least, greatest = BOUNDS[part]
    return is_within(thing, least, greatest)


def is_item(thing, kind):
    """Whether the thing is an item of sections of this kind."""
    if not isinstance(thing, tuple) or not thing or not isinstance(thing[0], str):
        return False
    form = FORMS.get(thing[0])
    if form is None or form[0] != kind or len(form) != len(thing):
        return False
    return all([is_part(thing[k], form[k]) for k in range(1, len(form))])


def is_section(thing):
    """Whether the thing is a section."""
    if not is_tuple_of(thing, 4):
        return False
    name, kind, unit, items = thing
    if not is_name(name) or not isinstance(kind, str) or kind not in UNITS:
        return False
    # By the bounds first: a truth is equal to a number, and so is found among the units.
    if not is_within(unit, 1, 8) or unit not in UNITS[kind]:
        return False
    return is_row(items, MOST_ITEMS) and all([is_item(item, kind) for item in items])


def item_length(item):
    """How many cells the item of data has; an item of code counts as one."""
    return item[1] if item[0] == "room" else 1


def length(section):
    """The section's length: the number of its cells, of code that of its items."""
    return sum([item_length(item) for item in section[3]])


def is_place(thing, sections):
    """Whether the thing tells a place of the sections, by a section's number and an offset."""
    if not is_tuple_of(thing, 2):
        return False
    number, offset = thing
    return is_within(number, 0, len(sections) - 1) and is_within(offset, 0, length(sections[number]))


def is_symbol(thing, sections):
    """Whether the thing is a symbol of a piece that has these sections."""
    if not is_tuple_of(thing, 3):
        return False
    name, binding, where = thing
    if not is_name(name):
        return False
    if binding == "maybe":
        return where is None
    if binding == "common":
        return is_within(where, LEAST_COMMON, GREATEST_COMMON)
    return binding in ("local", "strong", "weak") and is_place(where, sections)


def is_piece(thing):
    """Whether the thing is a piece."""
    if not is_tuple_of(thing, 3):
        return False
    name, sections, symbols = thing
    if not is_name(name) or not is_row(sections, MOST_SECTIONS) or not is_row(symbols, MOST_SYMBOLS):
        return False
    # The sections first: a symbol's place is told by the lengths of sections that are such.
    if not all([is_section(section) for section in sections]):
        return False
    if not all([is_symbol(symbol, sections) for symbol in symbols]):
        return False
    names = [symbol[0] for symbol in symbols]
    return names == sorted(set(names))


def named_by(section):
    """The items of the section that name something, each with the name, in order."""
    rows = []
    for item in section[3]:
        part = NAMED_PART.get(item[0])
        if part is not None:
            rows.append((item, item[part]))
    return rows


def namings(piece):
    """The items of the piece that name something, each with the name, in order."""
    return [row for section in piece[1] for row in named_by(section)]


def asked(piece):
    """The names that the piece asks, rising, each once."""
    names = set([name for _, name in namings(piece)])
    for name, binding, _ in piece[2]:
        if binding == "local":
            names.discard(name)
    return sorted(names)
