"""Left out: which holders are kept, as a way of names leads to them from a start, and why."""

from weldmill.choice import stands_for
from weldmill.pieces import is_tuple_of, named_by
from weldmill.places import is_common, is_holder, place_of, rising, section_of


def kept(pieces, choice, start, *, keep=()):
    """The holders that are kept, rising, sections ahead of commons."""
    return rising(list(steps_to(pieces, choice, roots(choice, start, keep))))


def why(pieces, choice, holder, start, *, keep=()):
    """Why the holder is kept, a way that leads to it, or why it is left, all holders that are kept."""
    steps = steps_to(pieces, choice, roots(choice, start, keep))
    if holder not in steps:
        return ("left", rising(list(steps)))
    way = [holder]
    while steps[way[-1]] is not None:
        way.append(steps[way[-1]])
    return ("kept", way[::-1])


def is_why(pieces, choice, holder, thing, start, *, keep=()):
    """Whether the thing, anything, tells why the holder is kept or left."""
    if not is_tuple_of(thing, 2):
        return False
    word, holders = thing
    if not isinstance(holders, list) or not all([is_holder(one, pieces, choice) for one in holders]):
        return False
    first = roots(choice, start, keep)
    if word == "kept":
        return is_way(pieces, choice, first, holders) and holders[-1] == holder
    return word == "left" and is_closed(pieces, choice, first, holders) and holder not in holders


def leads(pieces, choice, holder):
    """The holders that the holder names, rising, sections ahead of commons."""
    if is_common(holder):
        return []
    piece, _ = holder
    names = sorted(set([name for _, name in named_by(section_of(pieces, holder))]))
    told = {name: stands_for(pieces, choice, piece, name) for name in names}
    return rising([holder_of(told[name], name) for name in names if told[name][0] != "none"])


def holder_of(told, name):
    """The holder of the place for which the name stands, as told."""
    _, holder, _ = place_of(told, name, 0)
    return holder


def roots(choice, start, keep):
    """The holders of the places for which the start's name and those to keep stand."""
    return rising([holder_of(choice[name], name) for name in (start, *keep)])


def steps_to(pieces, choice, first):
    """For each holder that is kept the one that first led to it, None where it is one of the first."""
    steps = {holder: None for holder in first}
    waiting = list(first)
    at = 0
    while at < len(waiting):
        holder = waiting[at]
        for other in leads(pieces, choice, holder):
            if other not in steps:
                steps[other] = holder
                waiting.append(other)
        at += 1
    return steps


def is_way(pieces, choice, first, holders):
    """Whether the holders begin with one of the first, and each of them names the next."""
    if not holders or holders[0] not in first:
        return False
    return all([other in leads(pieces, choice, one) for one, other in zip(holders, holders[1:])])


def is_closed(pieces, choice, first, holders):
    """Whether the holders rise, and have the first ones and all that any of them names."""
    if holders != rising(holders):
        return False
    led = [other for holder in holders for other in leads(pieces, choice, holder)]
    return all([holder in holders for holder in first + led])
