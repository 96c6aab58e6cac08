"""Holders and places: where, by names, what a name stands for lies."""


def place_of(told, name, more):
    """The place that the name, which stands for what is told, is so much ahead of; of none the number alone."""
    if told[0] == "none":
        return more
    if told[0] == "common":
        return ("at", ("common", name), more)
    _, piece, section, offset = told
    return ("at", (piece, section), offset + more)


def is_in_code(pieces, holder):
    """Whether the holder is a section of code."""
    if holder[0] == "common":
        return False
    piece, section = holder
    return pieces[piece][1][section][1] == "code"


def data_holders(pieces, choice):
    """The holders of all sections of data, and of the commons behind them, each rising."""
    holders = []
    for number, piece in enumerate(pieces):
        for section in range(len(piece[1])):
            if not is_in_code(pieces, (number, section)):
                holders.append((number, section))
    holders.extend([("common", name) for name in sorted(choice) if choice[name][0] == "common"])
    return holders
