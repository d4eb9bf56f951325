"""Houses, lights and other things that several tests hand in."""

import sys
from random import Random

EIGHT_DEEP = [[[[[[[[]]]]]]]]

# Things of anything [2]: numbers, truths, None, texts, lists, tuples, dicts.
ANYTHING = (
    0, 1, 2, -1, -2, 7, 10, 1000001, 9999999999999, -9999999999999,
    True, False, None,
    "", "0", "None", "house", "a\nb", "~" * 1000,
    (), [], {}, (0,), [0], (0, 0), [0, 0], ((0, 0),), [(0, 0)], ([0, 0],),
    ((), ()), [(), ()], ([], []), ((3,), ()), [(3,), ()], ([3], ()), ((3,), []),
    ((True,), ()), ((None,), ()), (("3",), ()), ((3,), (), ()), ((3,),),
    (True, False), (None, None), ("", ""), {0: 0}, {(0, 0): [None]}, {"tops": (3,)},
    ({}, {}), ({3: 3}, {}), EIGHT_DEEP, tuple(range(2900)),
)

HOUSE = ((3, 2), ((0, 2, 1, 1, 4),))
LIGHTS = ((0, 0),)

# A top house of seven cords with lights of it: round about, to itself, side by side.
TOP = (((4, 3, 2, 5), ((0, 3, 1, 3, 2), (0, 2, 1, 3, 1), (1, 1, 2, 2, 5), (1, 2, 2, 2, 7),
                       (2, 1, 1, 3, 1), (3, 4, 2, 2, 9), (3, 1, 3, 5, 1))), ((0, 2), (3, 1)))

# Each a house with lights of it; together they show each kind of event of [20].
SAMPLES = (
    (HOUSE, LIGHTS),
    (HOUSE, ()),
    (HOUSE, ((0, 0), (1, 5))),
    (((5,), ()), ((0, 3),)),
    (((1,), ()), ((0, 0),)),
    (((10,), ((0, 8, 0, 3, 2),)), ((0, 0),)),
    (((10, 7), ((0, 8, 1, 6, 1), (1, 6, 0, 2, 1))), ((0, 1),)),
    (((9, 9, 9), ((0, 7, 2, 5, 3), (1, 7, 2, 5, 3), (2, 4, 2, 2, 1))), ((0, 0), (1, 0))),
    (((2, 3, 4, 5, 6, 7, 8),
      ((6, 7, 5, 7, 1), (5, 6, 4, 5, 2), (4, 4, 3, 4, 3), (3, 3, 2, 4, 1), (2, 2, 1, 3, 1),
       (1, 1, 0, 2, 5), (6, 5, 6, 2, 1), (5, 1, 5, 1, 1), (4, 1, 0, 1, 9), (3, 1, 6, 1, 1))),
     ((3, 4), (6, 0))),
    (((1000000, 1000000), ((0, 1, 1, 1000000, 1000000), (1, 1, 0, 1, 1))), ((0, 1000000),)),
)


def alike(one, other):
    """Tell whether two things are just alike, number by number: True is no 1."""
    return repr(one) == repr(other)


def variants(thing):
    """Yield the thing with one part otherwise, left out, twice or put in [2]."""
    yield from (None, True, False, 0, 1, -1, 9999999999999, "", "0", (), [], {}, (0,), [0])
    if isinstance(thing, int) and not isinstance(thing, bool):
        yield from (thing, thing - 1, thing + 1, -thing, str(thing), (thing,), [thing])
    if isinstance(thing, str):
        yield from (thing + " ", thing[1:], thing.upper(), "burnt", "fallen", "whole")
    if isinstance(thing, tuple):
        yield list(thing)
        yield thing[::-1]
        yield (thing,)
        yield dict(enumerate(thing))
        for at, part in enumerate(thing):
            yield thing[:at] + thing[at + 1:]
            yield thing[:at] + (part,) + thing[at:]
            for other in variants(part):
                yield thing[:at] + (other,) + thing[at + 1:]
        for at in range(len(thing) + 1):
            for other in (None, 0, (), (0, 1, None)):
                yield thing[:at] + (other,) + thing[at:]


def topped(house):
    """The house with each cord ending at the top of its candle other [70]."""
    tops, cords = house
    return tops, tuple((one, at, other, tops[other], long) for one, at, other, to, long in cords)


def written(house):
    """The text of a house, straight from the words of [100]."""
    tops, cords = house
    text = ",".join(map(repr, tops))
    for one, at, other, to, long in cords:
        text += " " + repr(one) + "@" + repr(at) + ">" + repr(other) + "@" + repr(to) + "+" + repr(long)
    return text


def all_rising(many):
    """All rising tuples of numbers below many, as Python sorts them."""
    rows = [()]
    for number in reversed(range(many)):
        rows += [(number,) + row for row in rows]
    return sorted(rows)


def fewest_first(many):
    """All rising tuples of numbers below many, the fewest first, of as few the least."""
    return sorted(all_rising(many), key=lambda row: (len(row), row))


def lines_run(function, *values):
    """Count the lines that Python runs to answer."""
    lines = []

    def trace(frame, event, argument):
        if event == "line":
            lines.append(frame.f_lineno)
        return trace

    kept = sys.gettrace()
    sys.settrace(trace)
    try:
        function(*values)
    finally:
        sys.settrace(kept)
    return len(lines)


def drawn(many, seed, candles=7, most=10):
    """Yield so many small houses with lights, always the same ones for a seed."""
    dice = Random(seed)
    for _ in range(many):
        tops = tuple(dice.randint(1, 9) for _ in range(dice.randint(1, candles)))
        hooks = [candle for candle, top in enumerate(tops) if top > 1]
        cords = []
        for _ in range(dice.randint(0, most) if hooks else 0):
            one = dice.choice(hooks)
            other = dice.randrange(len(tops))
            cords.append((one, dice.randint(1, tops[one] - 1),
                          other, dice.randint(1, tops[other]), dice.randint(1, 6)))
        lit = sorted(dice.sample(range(len(tops)), dice.randint(0, len(tops))))[:3]
        yield (tops, tuple(cords)), tuple((candle, dice.randint(0, 8)) for candle in lit)


def all_small():
    """Yield every house of tops 3 and 2 with two cords of long 1 or 2, with some lights."""
    hooks = [(0, 1), (0, 2), (1, 1)]
    ends = [(0, 1), (0, 2), (0, 3), (1, 1), (1, 2)]
    cords = [hook + end + (long,) for hook in hooks for end in ends for long in (1, 2)]
    for first in cords:
        for second in cords:
            for lights in (((0, 0),), ((1, 1),), ((0, 1), (1, 0)), ((0, 0), (1, 2))):
                yield ((3, 2), (first, second)), lights
