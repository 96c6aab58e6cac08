"""Pieces by chance, which have a choice and a start, for tests that compare with a second reckoning."""

WORDS = ("set", "copy", "add", "less", "times", "load", "store", "place", "place", "place", "call", "jump", "when",
         "when", "enter", "back", "tell", "tell", "halt")
STEADY = ("set", "copy", "place", "tell", "when", "when", "load", "store", "call", "jump")


def bare_section(chance, kind, longest):
    """A section whose items have no names yet, None in the place of these."""
    if kind == "code":
        words = chance.choice([WORDS, STEADY, ("set", "set", "jump", "when", "place")])
        items = [bare_instruction(chance, chance.choice(words)) for _ in range(chance.randint(0, longest))]
        return ["code", 1, items]
    items = []
    for _ in range(chance.randint(0, 4)):
        room = ("room", chance.choice([0, 1, 2, 40]))
        items.append(chance.choice([("cell", chance.randint(-3, 300)), room, ("at", None, 0)]))
    return ["data", chance.choice([1, 2, 4, 8]), items]


def bare_instruction(chance, word):
    r, s = chance.randrange(4), chance.randrange(4)
    rest = {"set": (r, chance.choice([0, 1, -1, 2, 10 ** 9])), "load": (r, s, chance.choice([0, 1, -1])),
            "store": (r, s, chance.choice([0, 1, -1])), "place": (r, None, 0), "call": (None,), "jump": (None,),
            "when": (r, None), "enter": (r,), "back": (), "tell": (r,), "halt": ()}
    return (word,) + rest.get(word, (r, s))


def length_of(items):
    return sum([item[1] if item[0] == "room" else 1 for item in items])


def symbols_of(chance, piece, sections):
    """Symbols of the piece, a dict from names to (binding, where, kind)."""
    told = {"v0": ("maybe", None, "none")}
    for number, (kind, _, items) in enumerate(sections):
        for k in range(chance.randint(0, 3)):
            where = (number, chance.randint(0, length_of(items)))
            name, binding = chance.choice([("s{}x{}x{}".format(piece, number, k), "strong"),
                                           ("w{}{}".format(kind[0], k), "weak"), ("l{}{}".format(kind[0], k), "local"),
                                           ("w{}{}".format(chance.choice("cd"), k), "local")])
            told[name] = (binding, where, kind)
    for name in ("m0", "m1", "m2"):
        if chance.random() < 0.4:
            told[name] = ("common", chance.choice([1, 2, 60]), "data")
    if piece == 0:
        told["start"] = ("strong", (0, chance.randint(0, min(2, len(sections[0][2])))), "code")
    return told


def named_item(chance, item, names):
    """The item with a name of a kind that it can use; None where there is none."""
    if None not in item:
        return item
    word = item[0]
    if word in ("place", "at"):
        name = chance.choice(sorted(names))
        more = 0 if names[name] == "code" else chance.choice([0, 0, 1, 99])
        return item[:-2] + (name, more)
    usable = sorted([name for name in names if names[name] == "code"])
    if chance.random() < 0.1:
        usable = sorted([name for name in names if names[name] == "none"])
    return item[:-1] + (chance.choice(usable),) if usable else ("halt",)


def draw_pieces(chance, many=3, longest=10):
    """So many pieces, with items enough for a section to be so long."""
    bare = []
    for piece in range(many):
        kinds = ["code"] + [chance.choice(["code", "data", "data"]) for _ in range(chance.randint(0, 3))]
        bare.append([bare_section(chance, kind, longest) for kind in kinds])
    tables = [symbols_of(chance, piece, sections) for piece, sections in enumerate(bare)]
    for_all = {}
    for table in tables:
        for name, (binding, _, kind) in table.items():
            if binding in ("strong", "weak", "common"):
                for_all[name] = kind
    pieces = []
    for piece, (sections, table) in enumerate(zip(bare, tables)):
        names = {**for_all, "v0": "none"}
        names.update({name: kind for name, (binding, _, kind) in table.items() if binding == "local"})
        full = [("x" + str(k), kind, unit, tuple([named_item(chance, item, names) for item in items]))
                for k, (kind, unit, items) in enumerate(sections)]
        symbols = tuple([(name,) + table[name][:2] for name in sorted(table)])
        pieces.append(("p" + str(piece), tuple(full), symbols))
    return pieces
