"""Whether a thing that is handed in is what is right."""


def are_alike(thing, right):
    """Whether the thing is what is right, in which no truth lies."""
    # Python takes True for 1 and False for 0, also within others, so truths are looked for.
    return thing == right and not has_truth(thing)


def has_truth(thing):
    """Whether the thing is a truth or one lies within it."""
    if isinstance(thing, dict):
        return has_truth(list(thing.items()))
    if isinstance(thing, (list, tuple)):
        return any([has_truth(part) for part in thing])
    return isinstance(thing, bool)
