"""Maps: what the rows of an image tell of where its holders lie."""

from weldmill.images import fetched
from weldmill.layouts import Layout
from weldmill.places import is_in_code, section_of


def layout_of(image, pieces, choice):
    """The layout that the image's rows tell; None where the cells of code there are no instructions."""
    layout = Layout(pieces, choice)
    for holder, address in image.rows:
        if is_in_code(pieces, holder):
            sizes = sizes_from(image.cells, address, len(section_of(pieces, holder)[3]))
            if sizes is None:
                return None
            layout.puts_code(holder, address, sizes)
        else:
            layout.puts_data(holder, address)
    return layout


def sizes_from(cells, address, many):
    """How many cells each of so many instructions has, one behind the other from the address on; or None."""
    sizes = []
    at = address
    for _ in range(many):
        row = fetched(cells, at)
        if row is None:
            return None
        _, size = row
        sizes.append(size)
        at += size
    return sizes
