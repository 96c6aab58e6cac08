"""The checker: whether an image and its rows stand for pieces, whoever made them."""

from weldmill.alike import has_truth
from weldmill.choice import choose, start_place
from weldmill.images import data_cells, fetched
from weldmill.layouts import FIRST_ADDRESS
from weldmill.leaving import leads
from weldmill.maps import layout_of
from weldmill.places import is_holder, is_in_code, section_of, unit_of


def is_right(pieces, start, image):
    """Whether the image is right for the pieces and the start; Doubled, Missing or Skewed."""
    choice = choose(pieces)
    place = start_place(pieces, choice, start)
    # Ahead of all else, as Python takes a truth for a number wherever it is.
    if has_truth([image.cells, image.start, image.rows]):
        return False
    holders = [holder for holder, _ in image.rows]
    if not are_holders(pieces, choice, holders) or not are_enough(pieces, choice, holders, place):
        return False
    layout = layout_of(image, pieces, choice)
    if layout is None or not are_addresses(layout) or layout.end > len(image.cells):
        return False
    return are_cells(layout, image.cells) and image.start == layout.number_of(place)


def are_holders(pieces, choice, holders):
    """Whether these are holders of the pieces, each once, code ahead of all others."""
    if not all([is_holder(holder, pieces, choice) for holder in holders]):
        return False
    behind_code = [not is_in_code(pieces, holder) for holder in holders]
    return len(set(holders)) == len(holders) and behind_code == sorted(behind_code)


def are_enough(pieces, choice, holders, place):
    """Whether the place's holder is among these, and all that any of them names."""
    _, first, _ = place
    named = [other for holder in holders for other in leads(pieces, choice, holder)]
    return all([holder in holders for holder in [first] + named])


def are_addresses(layout):
    """Whether each holder is at an address into which its unit goes, none ahead of the end of the one before."""
    end = FIRST_ADDRESS
    for holder, address in layout.addresses.items():
        if address < end or address % unit_of(layout.pieces, holder) != 0:
            return False
        end = layout.ends[holder]
    return True


def are_cells(layout, cells):
    """Whether the cells are those of the holders, and all others nought."""
    behind = 0
    for holder, address in layout.addresses.items():
        if any(cells[behind:address]) or not are_cells_of(layout, holder, cells):
            return False
        behind = layout.ends[holder]
    return not any(cells[behind:])


def are_cells_of(layout, holder, cells):
    """Whether the cells at the holder's address are its items."""
    if holder in layout.marks:
        return are_instructions(layout, holder, cells)
    return cells[layout.addresses[holder]:layout.ends[holder]] == data_cells(layout, holder)


def are_instructions(layout, holder, cells):
    """Whether the cells of the section of code decode to its items, with the numbers of what their names stand for."""
    for at, item in zip(layout.marks[holder], section_of(layout.pieces, holder)[3]):
        told, _ = fetched(cells, at)
        if told != layout.numbered(holder[0], item, at):
            return False
    return True
