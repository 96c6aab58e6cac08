"""Back to names: where an address lies, the symbols with their addresses, what differs between two images."""

from weldmill.choice import choose
from weldmill.maps import layout_of
from weldmill.places import is_common, section_of


def where(image, pieces, address):
    """Where the address lies, by names and an offset; None where it is in no holder, or within an instruction."""
    layout = layout_of(image, pieces, choose(pieces))
    for holder in layout.addresses:
        offset = offset_in(layout, holder, address)
        if offset is not None:
            return names_of(pieces, holder) + (offset,)
    return None


def listed(image, pieces):
    """The symbols (address, name of piece, name) of all that the image's rows have, rising."""
    layout = layout_of(image, pieces, choose(pieces))
    rows = [(layout.addresses[holder], "", holder[1]) for holder in layout.addresses if is_common(holder)]
    for number, piece in enumerate(pieces):
        for name, binding, place in piece[2]:
            if binding in ("local", "strong", "weak") and (number, place[0]) in layout.addresses:
                rows.append((layout.number_of(("at", (number, place[0]), place[1])), piece[0], name))
    return sorted(rows)


def changed(image, other):
    """The addresses at which the cells of two images are unlike, rising, with the cells of both."""
    many = max(len(image), len(other))
    rows = [(at, cell_at(image, at), cell_at(other, at)) for at in range(many)]
    return [row for row in rows if row[1] != row[2]]


def cell_at(image, at):
    """The image's cell at the address, None where it has none."""
    return image.cells[at] if at < len(image) else None


def offset_in(layout, holder, address):
    """The address's offset in the holder, in code the number of the item that begins there; None where it has none."""
    if holder in layout.marks:
        begins = layout.marks[holder][:-1]
        return begins.index(address) if address in begins else None
    offset = address - layout.addresses[holder]
    return offset if 0 <= offset and address < layout.ends[holder] else None


def names_of(pieces, holder):
    """The names of the holder: of its piece and section, or "common" and its own."""
    if is_common(holder):
        return holder
    return (pieces[holder[0]][0], section_of(pieces, holder)[0])
