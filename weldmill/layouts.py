"""Layouts: at which addresses holders lie, and which numbers the names in items are by these."""

from weldmill.choice import MORE_PART, value_named
from weldmill.pieces import NAMED_PART
from weldmill.places import cells_many, is_number

FIRST_ADDRESS = 1


class Layout:
    """Where the holders lie, as far as they have been put in their order."""

    def __init__(self, pieces, choice):
        self.pieces = pieces
        self.choice = choice
        self.addresses = {}
        # The address behind the last cell of each; its own where it has none.
        self.ends = {}
        # Of each section of code the addresses of its items, and of its end behind them.
        self.marks = {}
        # The address behind the last holder.
        self.end = FIRST_ADDRESS

    def puts_code(self, holder, address, sizes):
        """Puts a section of code, whose items have so many cells each, at the address."""
        marks = [address]
        for size in sizes:
            marks.append(marks[-1] + size)
        self.marks[holder] = marks
        self.puts(holder, address, marks[-1])

    def puts_data(self, holder, address):
        """Puts a section of data, or a common, at the address."""
        self.puts(holder, address, address + cells_many(self.pieces, self.choice, holder))

    def puts(self, holder, address, end):
        """Puts a holder with this end at the address."""
        self.addresses[holder] = address
        self.ends[holder] = end
        self.end = end

    def number_of(self, value):
        """The address of the place that the value is; a whole number is itself."""
        if is_number(value):
            return value
        _, holder, offset = value
        return self.marks[holder][offset] if holder in self.marks else self.addresses[holder] + offset

    def number_in(self, word, value, at):
        """The number that stands for the value in an item of this word at the address: its address or a distance."""
        if word in MORE_PART:
            return self.number_of(value)
        return 0 if is_number(value) else self.number_of(value) - at

    def numbered(self, piece, item, at):
        """The item of this piece, at this address, with a number for the name that it names."""
        word = item[0]
        if word not in NAMED_PART:
            return item
        value = value_named(self.pieces, self.choice, piece, item)
        return item[:NAMED_PART[word]] + (self.number_in(word, value, at),)
