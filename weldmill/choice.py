"""Choice: what each name that pieces ask or define stands for."""

from weldmill.alike import are_alike
from weldmill.errors import Doubled, Missing, Skewed, WeldError
from weldmill.pieces import NAMED_PART, asked, namings
from weldmill.places import is_in_code, place_of

# The piece of a Missing name that no piece asks, but a link: its start or one that it keeps.
NO_PIECE = -1

# Which part of an item is the number that it adds to its name's place, where it adds one.
MORE_PART = {"place": 3, "at": 2}


def choose(pieces):
    """What each name that a piece asks or defines stands for; Doubled, Missing or Skewed."""
    definitions = definitions_of(pieces)
    askers = askers_of(pieces)
    choice = {}
    for name in sorted(set(list(definitions) + list(askers))):
        choice[name] = chosen(name, definitions.get(name, []), askers.get(name))
    refuse_skewed(pieces, choice)
    return choice


def is_choice(pieces, told):
    """Whether what is told is the choice of the pieces."""
    try:
        right = choose(pieces)
    except WeldError:
        return False
    return are_alike(told, right)


def stands_for(pieces, choice, piece, name):
    """What the name, asked by the piece with this number or local in it, stands for."""
    for own, binding, where in pieces[piece][2]:
        if own == name and binding == "local":
            return ("at", piece) + where
    return choice[name]


def value_named(pieces, choice, piece, item):
    """The place, as much ahead as the item tells, of the name in the item of this piece; of none the number."""
    name = item[NAMED_PART[item[0]]]
    more = item[MORE_PART[item[0]]] if item[0] in MORE_PART else 0
    return place_of(stands_for(pieces, choice, piece, name), name, more)


def start_place(pieces, choice, start):
    """The place in code at which a run begins; Missing where the start's name stands for none."""
    told = choice.get(start, ("none",))
    if told[0] != "at" or not is_in_code(pieces, told[1:3]):
        raise Missing(start, NO_PIECE)
    return place_of(told, start, 0)


def defines(symbol):
    """Whether the symbol is a definition of its name for all pieces."""
    return symbol[1] in ("strong", "weak", "common")


def needed(piece):
    """The names that the piece asks and hasn't as maybe, rising."""
    bindings = {name: binding for name, binding, _ in piece[2]}
    return [name for name in asked(piece) if bindings.get(name) != "maybe"]


def definitions_of(pieces):
    """For each name that has any its definitions (binding, piece, where), in the order of the pieces."""
    definitions = {}
    for number, piece in enumerate(pieces):
        for symbol in piece[2]:
            if defines(symbol):
                name, binding, where = symbol
                definitions.setdefault(name, []).append((binding, number, where))
    return definitions


def askers_of(pieces):
    """For each name that is asked the first piece that needs it, None where each one has it as maybe."""
    askers = {}
    for number, piece in enumerate(pieces):
        for name in needed(piece):
            if askers.get(name) is None:
                askers[name] = number
        for name in asked(piece):
            askers.setdefault(name, None)
    return askers


def chosen(name, definitions, asker):
    """What the name with these definitions stands for; Doubled, or Missing where the asker needs it in vain."""
    strong = [row for row in definitions if row[0] == "strong"]
    if len(strong) > 1:
        raise Doubled(name, strong[0][1], strong[1][1])
    if strong:
        return place_told(strong[0])
    sizes = [where for binding, _, where in definitions if binding == "common"]
    if sizes:
        return ("common", max(sizes))
    if definitions:
        return place_told(definitions[0])
    if asker is not None:
        raise Missing(name, asker)
    return ("none",)


def place_told(definition):
    """What a name of this definition, a strong or a weak one, stands for."""
    _, piece, where = definition
    return ("at", piece) + where


def meanings(pieces, choice, piece):
    """What each name stands for that the piece with this number asks or has as local."""
    told = {name: choice[name] for name in asked(pieces[piece])}
    for name, binding, where in pieces[piece][2]:
        if binding == "local":
            told[name] = ("at", piece) + where
    return told


def refuse_skewed(pieces, choice):
    """Skewed where an item names what it can't use."""
    for number, piece in enumerate(pieces):
        told = meanings(pieces, choice, number)
        for item, name in namings(piece):
            if not is_usable(pieces, item, told[name]):
                raise Skewed(name, number)


def is_usable(pieces, item, told):
    """Whether the item can use a name that stands for what is told."""
    if told[0] == "none":
        return True
    in_code = told[0] == "at" and is_in_code(pieces, told[1:3])
    if item[0] in MORE_PART:
        return not in_code or item[MORE_PART[item[0]]] == 0
    return in_code
