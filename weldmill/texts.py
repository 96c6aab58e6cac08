"""The text of a piece: how it is written, and how it is read back."""

from weldmill.errors import NoText
from weldmill.pieces import FORMS, MOST_ITEMS, MOST_SECTIONS, MOST_SYMBOLS
from weldmill.pieces import is_item, is_name, is_section, is_symbol

# How many numbers stand behind a symbol's binding.
NUMBERS_OF = {"local": 2, "strong": 2, "weak": 2, "common": 1, "maybe": 0}

FIGURES = {2: "01", 10: "0123456789", 16: "0123456789abcdef"}
# In any base a number of more figures, the first one no nought, is beyond every bound of a piece.
MOST_FIGURES = 40


def write(piece):
    """The text of the piece."""
    name, sections, symbols = piece
    rows = [("piece", name)]
    for section in sections:
        rows.append(("section",) + section[:3])
        rows.extend(section[3])
    for symbol in symbols:
        rows.append(symbol_row(symbol))
    return "".join([" ".join([str(part) for part in row]) + "\n" for row in rows])


def symbol_row(symbol):
    """The parts of the symbol's line."""
    name, binding, where = symbol
    if binding == "maybe":
        return ("symbol", name, binding)
    if binding == "common":
        return ("symbol", name, binding, where)
    return ("symbol", name, binding) + where


def read(text):
    """The piece that the text is of; NoText where it is of none."""
    draft = Draft()
    lines = lines_of(text)
    for number, line in enumerate(lines, start=1):
        words = words_of(line)
        if words and not draft.takes(words):
            raise NoText(number)
    if draft.name is None:
        raise NoText(len(lines) + 1)
    return draft.made()


def lines_of(text):
    """The lines of the text."""
    lines = text.split("\n")
    if lines[-1] == "":
        lines.pop()
    return lines


def words_of(line):
    """The parts of the line, without its remark."""
    told = line.split(";")[0]
    return [word for word in told.split(" ") if word]


def number_of(word):
    """The number that the word writes; None where it writes none, or one beyond every bound."""
    figures = word.removeprefix("-")
    base = 10
    if figures.startswith("0x"):
        base = 16
    elif figures.startswith("0b"):
        base = 2
    if base != 10:
        figures = figures[2:]
    elif figures.startswith("0") and word != "0":
        # Noughts ahead and "-0" are for numbers of sixteen and two alone.
        return None
    if not figures or not all([figure in FIGURES[base] for figure in figures]):
        return None
    # Python itself refuses to read thousands of figures, so they are counted first.
    figures = figures.lstrip("0")
    if len(figures) > MOST_FIGURES:
        return None
    size = int(figures or "0", base)
    return -size if word.startswith("-") else size


def item_of(words):
    """The tuple that the words of an item's line make, right or not; None where they can make none."""
    form = FORMS.get(words[0])
    if form is None or len(form) != len(words):
        return None
    parts = [words[0]]
    for k in range(1, len(form)):
        parts.append(words[k] if form[k] == "name" else number_of(words[k]))
    return tuple(parts)


def symbol_of(words):
    """The tuple that the words of a symbol's line make, right or not; None where they can make none."""
    if len(words) < 3 or NUMBERS_OF.get(words[2]) != len(words) - 3:
        return None
    _, name, binding, *rest = words
    numbers = [number_of(word) for word in rest]
    if binding == "maybe":
        return (name, binding, None)
    if binding == "common":
        return (name, binding, numbers[0])
    return (name, binding, tuple(numbers))


class Draft:
    """A piece as far as its lines have been read."""

    def __init__(self):
        self.name = None
        self.sections = []
        self.symbols = {}

    def takes(self, words):
        """Whether a line of these words can stand next; where it can, it does."""
        if self.name is None:
            return self.takes_name(words)
        if words[0] == "symbol":
            return self.takes_symbol(words)
        if self.symbols:
            return False
        if words[0] == "section":
            return self.takes_section(words)
        return self.takes_item(words)

    def takes_name(self, words):
        """Whether the words are the piece's line, which names it."""
        if len(words) != 2 or words[0] != "piece" or not is_name(words[1]):
            return False
        self.name = words[1]
        return True

    def takes_section(self, words):
        """Whether the words begin one more section."""
        if len(words) != 4 or len(self.sections) == MOST_SECTIONS:
            return False
        section = (words[1], words[2], number_of(words[3]), ())
        if not is_section(section):
            return False
        self.sections.append(section)
        return True

    def takes_item(self, words):
        """Whether the words are one more item of the last section."""
        if not self.sections:
            return False
        name, kind, unit, items = self.sections[-1]
        item = item_of(words)
        if len(items) == MOST_ITEMS or not is_item(item, kind):
            return False
        self.sections[-1] = (name, kind, unit, items + (item,))
        return True

    def takes_symbol(self, words):
        """Whether the words are one more symbol, with a name of its own."""
        symbol = symbol_of(words)
        if len(self.symbols) == MOST_SYMBOLS or not is_symbol(symbol, self.sections):
            return False
        if symbol[0] in self.symbols:
            return False
        self.symbols[symbol[0]] = symbol
        return True

    def made(self):
        """The piece of the lines that were taken."""
        symbols = [self.symbols[name] for name in sorted(self.symbols)]
        return (self.name, tuple(self.sections), tuple(symbols))
