"""Whole numbers, ints that are no truths, and rising tuples of them."""

from itertools import combinations


def is_whole(thing):
    """Tell whether this is a whole number."""
    # Python counts True and False among the ints, the document doesn't.
    return isinstance(thing, int) and not isinstance(thing, bool)


def is_from_to(thing, low, high):
    """Tell whether this is a whole number from low to high, both included."""
    return is_whole(thing) and low <= thing <= high


def is_whole_or_none(thing):
    """Tell whether this is a whole number or None."""
    return thing is None or is_whole(thing)


def are_rising(numbers):
    """Tell whether each of these numbers is greater than the one ahead."""
    return all([low < high for low, high in zip(numbers, numbers[1:])])


def is_pick(thing, many):
    """Tell whether this is a rising tuple of some of the numbers 0, 1 .. below many."""
    if not isinstance(thing, tuple):
        return False
    return all([is_from_to(number, 0, many - 1) for number in thing]) and are_rising(thing)


def all_picks(many):
    """List all rising tuples of the numbers below many: the fewest first, of as few the least."""
    return picks_of(list(range(many)))


def picks_of(numbers):
    """List all rising tuples of these rising numbers: the fewest first, of as few the least."""
    return [pick for size in range(len(numbers) + 1) for pick in combinations(numbers, size)]


def is_just(thing, told):
    """Tell whether this is just what was told, number by number: a truth is no number."""
    if isinstance(told, tuple):
        if not isinstance(thing, tuple) or len(thing) != len(told):
            return False
        return all([is_just(part, known) for part, known in zip(thing, told)])
    return thing == told and not isinstance(thing, bool)
