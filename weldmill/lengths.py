"""Lengths: where the holders of an order lie, and which of its instructions must be far."""

from weldmill.alike import are_alike
from weldmill.choice import value_named
from weldmill.layouts import Layout
from weldmill.places import is_in_code, section_of, unit_of

# The least and the greatest number that a near instruction can have.
NEAR_BOUNDS = {"place": (0, 255), "call": (-64, 63), "jump": (-64, 63), "when": (-64, 63)}


def laid(pieces, choice, order, far):
    """The address of each holder of the order, and the least one behind all, with these far ones."""
    layout = layout_with(pieces, choice, order, sizes_with(pieces, order, far))
    return layout.addresses, layout.end


def far_ones(pieces, choice, order):
    """The least list of far ones with which each near one has what it needs, and the rank of each of them."""
    aims = aims_of(pieces, choice, order)
    sizes = sizes_with(pieces, order, [])
    ranks = {}
    rank = 1
    lacking = lacking_with(layout_with(pieces, choice, order, sizes), aims)
    while lacking:
        for one in lacking:
            piece, section, item = one
            sizes[(piece, section)][item] = 2
            ranks[one] = rank
            del aims[one]
        rank += 1
        lacking = lacking_with(layout_with(pieces, choice, order, sizes), aims)
    return sorted(ranks), ranks


def are_ranks(pieces, choice, order, ranks):
    """Whether these are the ranks of the order's far ones."""
    _, right = far_ones(pieces, choice, order)
    return are_alike(ranks, right)


def sizes_with(pieces, order, far):
    """For each section of code in the order how many cells each of its items has, with these far ones."""
    are_far = {one: True for one in far}
    sizes = {}
    for holder in order:
        if is_in_code(pieces, holder):
            items = section_of(pieces, holder)[3]
            sizes[holder] = [size_of(item, holder + (k,) in are_far) for k, item in enumerate(items)]
    return sizes


def size_of(item, is_far):
    """How many cells the item of code has."""
    return 2 if item[0] == "set" or (is_far and item[0] in NEAR_BOUNDS) else 1


def layout_with(pieces, choice, order, sizes):
    """The layout of the order, with so many cells for the items of code."""
    layout = Layout(pieces, choice)
    for holder in order:
        if holder in sizes:
            layout.puts_code(holder, layout.end, sizes[holder])
        else:
            layout.puts_data(holder, least_multiple(layout.end, unit_of(pieces, holder)))
    return layout


def least_multiple(address, unit):
    """The least address, from this one on, into which the unit goes."""
    return (address + unit - 1) // unit * unit


def aims_of(pieces, choice, order):
    """For each instruction of the order that may be far its word and what it names, a place or a number."""
    aims = {}
    for holder in order:
        if is_in_code(pieces, holder):
            for k, item in enumerate(section_of(pieces, holder)[3]):
                if item[0] in NEAR_BOUNDS:
                    aims[holder + (k,)] = (item[0], value_named(pieces, choice, holder[0], item))
    return aims


def lacking_with(layout, aims):
    """Those that lack what they need as near ones, laid so."""
    return [one for one in aims if not has_needed(layout, one, aims[one])]


def has_needed(layout, one, aim):
    """Whether the instruction with this aim has as a near one, laid so, what it needs."""
    word, value = aim
    piece, section, item = one
    least, greatest = NEAR_BOUNDS[word]
    return least <= layout.number_in(word, value, layout.marks[(piece, section)][item]) <= greatest
