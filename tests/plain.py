"""A second reckoning of what images are, straight from the document, for tests that compare."""

OPS = {"halt": 0, "set": 1, "copy": 2, "add": 3, "less": 4, "times": 5, "load": 6, "store": 7, "place": 8, "call": 10,
       "jump": 12, "when": 14, "back": 16, "tell": 17, "enter": 18}
TWO_FORMS = ("place", "call", "jump", "when")
NAMED = {"place": 2, "call": 1, "jump": 1, "when": 2, "at": 1}


def holders_of(pieces, choice):
    """All sections and commons, code, data and commons one behind the other."""
    sections = [(p, s) for p, row in enumerate(pieces) for s in range(len(row[1]))]
    commons = [("common", name) for name in sorted(choice) if choice[name][0] == "common"]
    return [h for h in sections if is_code(pieces, h)] + [h for h in sections if not is_code(pieces, h)] + commons


def is_code(pieces, holder):
    return holder[0] != "common" and pieces[holder[0]][1][holder[1]][1] == "code"


def items_of(pieces, choice, holder):
    """The items of the holder; those of a common are one room."""
    return (("room", choice[holder[1]][1]),) if holder[0] == "common" else pieces[holder[0]][1][holder[1]][3]


def value_of(pieces, choice, piece, item):
    """The place (holder, offset) or, of none, the number that the item's name stands for."""
    name = item[NAMED[item[0]]]
    more = item[-1] if item[0] in ("place", "at") else 0
    for own, binding, where in pieces[piece][2]:
        if own == name and binding == "local":
            return ((piece, where[0]), where[1] + more)
    told = choice[name]
    if told[0] == "none":
        return more
    return (("common", name), more) if told[0] == "common" else (told[1:3], told[3] + more)


def reached(pieces, choice, names):
    """The holders that are kept."""
    roots = [choice[name][1:3] if choice[name][0] == "at" else ("common", name) for name in names]
    found = list(dict.fromkeys(roots))
    for holder in found:
        for item in items_of(pieces, choice, holder):
            if item[0] in NAMED:
                value = value_of(pieces, choice, holder[0], item)
                if not isinstance(value, int) and value[0] not in found:
                    found.append(value[0])
    return found


class PlainImage:
    """Rows with gaps and forms as told; the addresses and cells that these give."""

    def __init__(self, pieces, choice, order, far, gaps=None):
        self.pieces, self.choice, self.order, self.far = pieces, choice, order, far
        self.rows, self.marks, at = [], {}, 1
        for holder in order:
            at += (gaps or {}).get(holder, 0)
            unit = 1 if holder[0] == "common" else pieces[holder[0]][1][holder[1]][2]
            at += -at % unit
            self.rows.append((holder, at))
            self.marks[holder] = [at]
            for k, item in enumerate(items_of(pieces, choice, holder)):
                two = item[0] == "set" or item[0] in TWO_FORMS and holder + (k,) in far
                at += item[1] if item[0] == "room" else 2 if two else 1
                self.marks[holder].append(at)
        self.end = at

    def address(self, place):
        """The address of a place (holder, offset)."""
        holder, offset = place
        return self.marks[holder][offset] if is_code(self.pieces, holder) else self.marks[holder][0] + offset

    def number(self, holder, k, item):
        value = value_of(self.pieces, self.choice, holder[0], item)
        if isinstance(value, int):
            return value
        here = 0 if item[0] in ("place", "at") else self.marks[holder][k]
        return self.address(value) - here

    def lacking(self):
        """The near ones that lack what they need."""
        rows = []
        for holder in self.order:
            for k, item in enumerate(items_of(self.pieces, self.choice, holder)):
                if item[0] in TWO_FORMS and holder + (k,) not in self.far:
                    number = self.number(holder, k, item)
                    least, greatest = (0, 255) if item[0] == "place" else (-64, 63)
                    if number not in range(least, greatest + 1):
                        rows.append(holder + (k,))
        return rows

    def cells(self, behind=0):
        """The cells, with so many noughts behind them."""
        cells = [0] * (self.end + behind)
        for holder in self.order:
            for k, item in enumerate(items_of(self.pieces, self.choice, holder)):
                own = self.item_cells(holder, k, item)
                at = self.marks[holder][k]
                cells[at:at + len(own)] = own
        return cells

    def item_cells(self, holder, k, item):
        word = item[0]
        if word == "cell":
            return [item[1]]
        if word == "room":
            return [0] * item[1]
        if word == "at":
            return [self.number(holder, k, item)]
        if word in TWO_FORMS:
            number = self.number(holder, k, item)
            r = 32 * item[1] if word in ("place", "when") else 0
            if holder + (k,) in self.far:
                return [OPS[word] + 1 + r, number]
            return [OPS[word] + r + 2048 * (number if word == "place" else number + 128)]
        if word == "set":
            return [1 + 32 * item[1], item[2]]
        r, s, more = (item[1:] + (0, 0, 0))[:3]
        return [OPS[word] + 32 * r + 256 * s + (2048 * (more + 128) if word in ("load", "store") else 0)]


def plain_link(pieces, choice, start, keep=(), leave=True):
    """The cells, start and rows of the image that a link makes."""
    order = holders_of(pieces, choice)
    if leave:
        found = reached(pieces, choice, (start,) + tuple(keep))
        order = [holder for holder in order if holder in found]
    image = PlainImage(pieces, choice, order, {})
    while image.lacking():
        image = PlainImage(pieces, choice, order, {**image.far, **{one: True for one in image.lacking()}})
    told = choice[start]
    return image.cells(), image.address((told[1:3], told[3])), image.rows


def rows_by_chance(chance, pieces, choice, start):
    """The start's holder and others by chance with all that they name, in any order with code ahead."""
    names = [name for name in sorted(choice) if choice[name][0] != "none" and chance.random() < 0.2]
    found = reached(pieces, choice, [start] + names)
    more = [holder for holder in holders_of(pieces, choice) if holder not in found and holder[0] != "common"]
    for holder in more:
        named = [value_of(pieces, choice, holder[0], item) for item in items_of(pieces, choice, holder)
                 if item[0] in NAMED]
        if chance.random() < 0.5 and all([isinstance(value, int) or value[0] in found for value in named]):
            found.append(holder)
    chance.shuffle(found)
    return [h for h in found if is_code(pieces, h)] + [h for h in found if not is_code(pieces, h)]


def right_image(chance, pieces, choice, start, gaps=True):
    """A PlainImage by chance that is right: any order, gaps, and far forms where near ones would do."""
    order = rows_by_chance(chance, pieces, choice, start)
    far = {}
    for holder in order:
        for k in range(len(items_of(pieces, choice, holder))):
            if chance.random() < 0.1:
                far[holder + (k,)] = True
    gaps = {holder: chance.randint(1, 9) for holder in order if gaps and chance.random() < 0.2}
    image = PlainImage(pieces, choice, order, far, gaps)
    while image.lacking():
        image = PlainImage(pieces, choice, order, {**image.far, **{one: True for one in image.lacking()}}, gaps)
    return image


def plain_right(pieces, choice, start, cells, begin, rows):
    """Whether an image of these parts, without truths, is right for the pieces and the start."""
    holders = [holder for holder, _ in rows]
    there = holders_of(pieces, choice)
    if [h for h in holders if h not in there or holders.count(h) != 1]:
        return False
    kinds = [is_code(pieces, holder) for holder in holders]
    place = (choice[start][1:3], choice[start][3])
    if kinds != sorted(kinds, reverse=True) or place[0] not in holders:
        return False
    gaps, far, end = {}, {}, 1
    for holder, address in rows:
        items = items_of(pieces, choice, holder)
        if address < end or holder[0] != "common" and address % pieces[holder[0]][1][holder[1]][2]:
            return False
        gaps[holder], end = address - end, address
        for k, item in enumerate(items):
            if item[0] in NAMED:
                value = value_of(pieces, choice, holder[0], item)
                if not isinstance(value, int) and value[0] not in holders:
                    return False
            two = item[0] in TWO_FORMS and end < len(cells) and cells[end] % 32 in (9, 11, 13, 15)
            if two:
                far[holder + (k,)] = True
            end += item[1] if item[0] == "room" else 2 if two or item[0] == "set" else 1
        if end > len(cells):
            return False
    image = PlainImage(pieces, choice, holders, far, gaps)
    return not image.lacking() and image.cells(len(cells) - end) == cells and image.address(place) == begin
