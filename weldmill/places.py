"""Holders and places: where, by names, what a name stands for lies."""

from weldmill.pieces import is_tuple_of, is_within, length


def place_of(told, name, more):
    """The place that the name, which stands for what is told, is so much ahead of; of none the number alone."""
    if told[0] == "none":
        return more
    if told[0] == "common":
        return ("at", ("common", name), more)
    _, piece, section, offset = told
    return ("at", (piece, section), offset + more)


def is_number(value):
    """Whether the value is a whole number, no place."""
    return isinstance(value, int)


def is_common(holder):
    """Whether the holder is a common."""
    return holder[0] == "common"


def section_of(pieces, holder):
    """The section that the holder, no common, is."""
    piece, section = holder
    return pieces[piece][1][section]


def is_in_code(pieces, holder):
    """Whether the holder is a section of code."""
    return not is_common(holder) and section_of(pieces, holder)[1] == "code"


def is_holder(thing, pieces, choice):
    """Whether the thing is a holder of the pieces: a section of theirs, or a common of the choice."""
    if not is_tuple_of(thing, 2):
        return False
    one, other = thing
    if one == "common":
        return isinstance(other, str) and other in choice and choice[other][0] == "common"
    return is_within(one, 0, len(pieces) - 1) and is_within(other, 0, len(pieces[one][1]) - 1)


def all_holders(pieces, choice):
    """The holders of all sections, and of the commons behind them, each rising."""
    sections = [(number, section) for number, piece in enumerate(pieces) for section in range(len(piece[1]))]
    return sections + [("common", name) for name in sorted(choice) if choice[name][0] == "common"]


def data_holders(pieces, choice):
    """The holders of all sections of data, and of the commons behind them, each rising."""
    return [holder for holder in all_holders(pieces, choice) if not is_in_code(pieces, holder)]


def rising(holders):
    """The holders, each once, rising, sections ahead of commons."""
    # Apart, as Python can't compare a section's number with the word of a common.
    sections = [holder for holder in holders if not is_common(holder)]
    commons = [holder for holder in holders if is_common(holder)]
    return sorted(set(sections)) + sorted(set(commons))


def unit_of(pieces, holder):
    """The unit of which the holder's address is a multiple."""
    return 1 if is_common(holder) else section_of(pieces, holder)[2]


def cells_many(pieces, choice, holder):
    """How many cells the holder, no section of code, has."""
    return choice[holder[1]][1] if is_common(holder) else length(section_of(pieces, holder))
