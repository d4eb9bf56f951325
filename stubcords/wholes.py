"""Whole numbers: ints that are no truths."""


def is_whole(thing):
    """Tell whether this is a whole number."""
    # Python counts True and False among the ints, the document doesn't.
    return isinstance(thing, int) and not isinstance(thing, bool)


def is_from_to(thing, low, high):
    """Tell whether this is a whole number from low to high, both included."""
    return is_whole(thing) and low <= thing <= high
