"""Rows of cords from the candles with a light to another one."""

from stubcords.wholes import is_from_to


def is_row(cords, lit, candle, thing):
    """Tell whether this is a row: cord behind cord, from a candle with a light to this one."""
    if not isinstance(thing, tuple) or thing == ():
        return False
    if not all([is_from_to(number, 0, len(cords) - 1) for number in thing]):
        return False
    hang = [cords[number][0] for number in thing]
    end = [cords[number][2] for number in thing]
    return hang[0] in lit and hang[1:] == end[:-1] and end[-1] == candle


def are_apart(rows):
    """Tell whether no cord stands twice in these rows, taken together."""
    numbers = [number for row in rows for number in row]
    return len(set(numbers)) == len(numbers)


def rows_apart(cords, lit, candle):
    """Find as many rows to a candle without a light as there can be, no cord twice in them."""
    taken = []
    steps = way_to(cords, lit, candle, taken)
    while steps is not None:
        # A taken cord that is gone back over is free again: the two rows swap their ends there.
        taken = [number for number in range(len(cords)) if (number in taken) != (number in steps)]
        steps = way_to(cords, lit, candle, taken)
    return rows_of(cords, lit, candle, taken)


def way_to(cords, lit, candle, taken):
    """Find a way to a candle, along free cords and back over taken ones: its cords, or None."""
    ways = {start: [] for start in lit}
    here = list(lit)
    while here and candle not in ways:
        place = here.pop(0)
        for number, (one, at, other, to, long) in enumerate(cords):
            start, end = (other, one) if number in taken else (one, other)
            if start == place and end not in ways:
                ways[end] = [*ways[place], number]
                here.append(end)
    return ways.get(candle)


def rows_of(cords, lit, candle, taken):
    """Part taken cords into rows, each from its last cord back to a candle with a light."""
    free = [number for number in taken if cords[number][2] != candle]
    rows = []
    for last in [number for number in taken if cords[number][2] == candle]:
        row = [last]
        while cords[row[0]][0] not in lit:
            # As many taken cords end at a candle between as hang at it, so one is free here.
            ahead = min([number for number in free if cords[number][2] == cords[row[0]][0]])
            free.remove(ahead)
            row.insert(0, ahead)
        rows.append(tuple(row))
    return tuple(rows)
