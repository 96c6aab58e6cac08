"""The refusals of the program, each with the fields that tell what was at fault."""


class WeldError(ValueError):
    """Any refusal."""


class NoText(WeldError):
    """A text that is none of a piece; line is the number, from 1, of the line at fault."""

    def __init__(self, line):
        super().__init__(f"no text of a piece from line {line} on")
        self.line = line


class Doubled(WeldError):
    """A name with two strong definitions, in the pieces with the numbers one and other."""

    def __init__(self, name, one, other):
        super().__init__(f"pieces {one} and {other} both define {name}")
        self.name = name
        self.one = one
        self.other = other


class Missing(WeldError):
    """A name that is asked, by the piece with this number, and stands for nothing."""

    def __init__(self, name, piece):
        super().__init__(f"piece {piece} asks {name}, which nothing defines")
        self.name = name
        self.piece = piece


class Skewed(WeldError):
    """A name that the piece with this number uses as it can't be used."""

    def __init__(self, name, piece):
        super().__init__(f"piece {piece} can't use {name} so")
        self.name = name
        self.piece = piece


class TooGreat(WeldError):
    """An image of more cells than most."""

    def __init__(self, most):
        super().__init__(f"the image has more than {most} cells")
        self.most = most


class Twin(WeldError):
    """A piece whose name stands already."""

    def __init__(self, name):
        super().__init__(f"a piece {name} stands already")
        self.name = name


class NoPiece(WeldError):
    """A name that no piece has."""

    def __init__(self, name):
        super().__init__(f"no piece {name} stands")
        self.name = name


class TooMany(WeldError):
    """One piece more than most."""

    def __init__(self, most):
        super().__init__(f"there are {most} pieces already")
        self.most = most


class Broken(WeldError):
    """Several deeds of which the one with this number was refused."""

    def __init__(self, number):
        super().__init__(f"deed {number} was refused")
        self.number = number
