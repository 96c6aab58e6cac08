"""The Linker: pieces in order that are put in, exchanged and taken out, with a way back."""

from weldmill.errors import Broken, NoPiece, TooMany, Twin, WeldError
from weldmill.images import link

MOST_PIECES = 30


class Linker:
    """Pieces in order, and what was done to them."""

    def __init__(self):
        self.pieces = []
        # Of each deed its word, as undo tells it, and the pieces as they stood ahead of it.
        self.past = []

    def put(self, piece):
        """Puts the piece behind the others; TooMany, or Twin where its name stands already."""
        if len(self.pieces) == MOST_PIECES:
            raise TooMany(MOST_PIECES)
        if piece[0] in self.names():
            raise Twin(piece[0])
        self.does("put", self.pieces + [piece])

    def exchange(self, piece):
        """Puts the piece in the place of the one of its name; NoPiece."""
        at = self.number_named(piece[0])
        self.does("exchanged", self.pieces[:at] + [piece] + self.pieces[at + 1:])

    def take_out(self, name):
        """Takes the piece of this name out; NoPiece."""
        at = self.number_named(name)
        self.does("taken", self.pieces[:at] + self.pieces[at + 1:])

    def all_of(self, deeds):
        """Does all of the deeds, in order; Broken, and none of them is done, where one is refused."""
        pieces = self.pieces
        past = list(self.past)
        for number, deed in enumerate(deeds):
            try:
                self.does_deed(deed)
            except WeldError as refused:
                self.pieces = pieces
                self.past = past
                raise Broken(number) from refused

    def undo(self):
        """Goes back by one deed and tells which one it was; None where there is none."""
        if not self.past:
            return None
        told, pieces = self.past.pop()
        self.pieces = pieces
        return told

    def names(self):
        """The names of the pieces, in order."""
        return [piece[0] for piece in self.pieces]

    def image(self, start, *, keep=(), leave=True):
        """The image of the pieces, refused as link refuses it."""
        return link(self.pieces, start, keep=keep, leave=leave)

    def number_named(self, name):
        """The number of the piece of this name; NoPiece."""
        names = self.names()
        if name not in names:
            raise NoPiece(name)
        return names.index(name)

    def does(self, told, pieces):
        """Does a deed, behind which these pieces stand."""
        # Each deed makes a new list, so those kept for undo stay as they are.
        self.past.append((told, self.pieces))
        self.pieces = pieces

    def does_deed(self, deed):
        """Does one of several deeds, (word, piece or name)."""
        word, what = deed
        if word == "put":
            self.put(what)
        elif word == "exchange":
            self.exchange(what)
        else:
            self.take_out(what)

    def __eq__(self, other):
        return isinstance(other, Linker) and self.pieces == other.pieces

    def __len__(self):
        return len(self.pieces)
