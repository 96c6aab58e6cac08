"""Archives: which of their members are drawn to pieces that ask for them, and why."""

from weldmill.alike import are_alike
from weldmill.choice import defines, needed


def drawn(pieces, archives, *, group=False):
    """The pieces with the members that are drawn behind them, and the reason for each of these."""
    draw = Draw(pieces)
    rows = [members_of(number, archive) for number, archive in enumerate(archives)]
    if group:
        rows = [[member for row in rows for member in row]]
    for members in rows:
        draw.draws_from(members)
    return draw.pieces, draw.reasons


def are_reasons(pieces, archives, reasons, *, group=False):
    """Whether these are the reasons for which members of the archives are drawn to the pieces."""
    _, right = drawn(pieces, archives, group=group)
    return are_alike(reasons, right)


def members_of(number, archive):
    """The members (archive, member, piece) of the archive with this number."""
    return [(number, member, piece) for member, piece in enumerate(archive)]


def defined(piece):
    """The names of which the piece has a definition, rising."""
    return [symbol[0] for symbol in piece[2] if defines(symbol)]


class Draw:
    """A list of pieces to which members of archives are drawn."""

    def __init__(self, pieces):
        self.pieces = []
        self.reasons = []
        # The first piece that needs each name, and the names that have a definition.
        self.askers = {}
        self.found = {}
        for piece in pieces:
            self.takes(piece)

    def takes(self, piece):
        """Puts the piece behind the others."""
        for name in needed(piece):
            self.askers.setdefault(name, len(self.pieces))
        for name in defined(piece):
            self.found[name] = True
        self.pieces.append(piece)

    def draws_from(self, members):
        """Draws the first of the members that is asked for, again and again, till none is."""
        left = list(members)
        at = self.first_asked(left)
        while at is not None:
            number, member, piece = left.pop(at)
            name = self.least_open(piece)
            self.reasons.append((number, member, name, self.askers[name]))
            self.takes(piece)
            at = self.first_asked(left)

    def first_asked(self, members):
        """The index of the first of the members with a definition of an open name, None where none has."""
        for at, (_, _, piece) in enumerate(members):
            if self.least_open(piece) is not None:
                return at
        return None

    def least_open(self, piece):
        """The least open name of which the piece has a definition, None where there is none."""
        for name in defined(piece):
            if name in self.askers and name not in self.found:
                return name
        return None
