"""The burning of a house: when its candles are set, when its cords catch."""

from heapq import heapify, heappop, heappush

from stubcords.errors import NoBeat
from stubcords.houses import need_candle, need_lights
from stubcords.wholes import is_from_to, is_whole, is_whole_or_none

LAST_BEAT = 1000000000000
# Ahead of all cords' numbers, so that among embers as low a light comes first.
BY_LIGHT = -1


def burning(house, lights):
    """Tell the burning (tales, catches) of a house with these lights."""
    need_lights(house, lights)
    tales = burnt_tales(house, lights)
    return tales, catches_of(house, tales)


def burnt_tales(house, lights):
    """Make each candle's tale, of a house and lights that are not refused."""
    tops = house[0]
    tales = [()] * len(tops)
    coming = [(beat, candle, tops[candle], BY_LIGHT) for candle, beat in lights]
    heapify(coming)
    while coming:
        beat, candle, height, rank = heappop(coming)
        tale = with_ember(tales[candle], beat, height, rank)
        if tale != tales[candle] and is_sent(house, tales, beat, rank):
            tales[candle] = tale
            for ember in embers_from(house, candle, beat, height):
                heappush(coming, ember)
    return tuple(tales)


def embers_from(house, candle, beat, height):
    """List the embers (beat, candle, height, rank) of a flame of this height, were it never set."""
    embers = []
    for number, (one, at, other, to, long) in enumerate(house[1]):
        if one == candle and at <= height:
            embers.append((beat + height - at + long, other, to, number))
    return embers


def is_sent(house, tales, beat, rank):
    """Tell whether an ember that is due in this beat was sent: its cord did catch."""
    if rank == BY_LIGHT:
        return True
    one, at, other, to, long = house[1][rank]
    # An ember takes one beat at the least, so the tale of the candle one is
    # known by now up to the beat in which the cord would have caught.
    return flame_in(tales[one], beat - long) == at


def tales_of(house, lights, catches):
    """Make each candle's tale, were these all the beats in which cords catch."""
    candles = range(len(house[0]))
    return tuple([tale_of(embers_to(house, lights, catches, candle)) for candle in candles])


def embers_to(house, lights, catches, candle):
    """List the embers (beat, height, rank) that come to a candle."""
    tops, cords = house
    embers = [(beat, tops[lit], BY_LIGHT) for lit, beat in lights if lit == candle]
    for number, (one, at, other, to, long) in enumerate(cords):
        if other == candle and catches[number] is not None:
            embers.append((catches[number] + long, to, number))
    return embers


def tale_of(embers):
    """Make the tale of a whole candle to which these embers come."""
    tale = ()
    # Sorted, the lowest of one beat comes first; the others then find a flame
    # that is as low already.
    for beat, height, rank in sorted(embers):
        tale = with_ember(tale, beat, height, rank)
    return tale


def with_ember(tale, beat, height, rank):
    """Tell the tale as it is once an ember came to its candle."""
    if tale and flame_in(tale, beat) <= height:
        return tale
    return (*tale, (beat, height, None if rank == BY_LIGHT else rank))


def flame_in(tale, beat):
    """Tell the height of a candle's flame in this beat, 0 where it has none."""
    flame = 0
    for start, height, by in tale:
        if start <= beat:
            flame = max(0, height - (beat - start))
    return flame


def catches_of(house, tales):
    """Tell for each cord the beat in which it catches by these tales, or None."""
    return tuple([catch_of(tales[one], at) for one, at, other, to, long in house[1]])


def catch_of(tale, at):
    """Tell the beat in which the flame of this tale is at this height, or None."""
    for number, (start, height, by) in enumerate(tale):
        beat = start + height - at
        is_last = number + 1 == len(tale)
        if at <= height and (is_last or beat < tale[number + 1][0]):
            return beat
    return None


def is_burning(house, lights, thing):
    """Tell whether this is the burning, judged cord by cord, candle by candle."""
    need_lights(house, lights)
    if not is_table(house, thing):
        return False
    tales, catches = thing
    return tales == tales_of(house, lights, catches) and catches == catches_of(house, tales)


def is_table(house, thing):
    """Tell whether this has the form of a burning of the house."""
    if not isinstance(thing, tuple) or len(thing) != 2:
        return False
    tales, catches = thing
    if not isinstance(tales, tuple) or not isinstance(catches, tuple):
        return False
    if len(tales) != len(house[0]) or len(catches) != len(house[1]):
        return False
    return all([is_tale(tale) for tale in tales]) and all([is_whole_or_none(beat) for beat in catches])


def is_tale(thing):
    """Tell whether this is a tuple of settings (beat, height, by)."""
    return isinstance(thing, tuple) and all([is_setting(part) for part in thing])


def is_setting(thing):
    """Tell whether this has the form (beat, height, by)."""
    if not isinstance(thing, tuple) or len(thing) != 3:
        return False
    beat, height, by = thing
    return is_whole(beat) and is_whole(height) and is_whole_or_none(by)


def height_at(house, lights, candle, beat):
    """Tell the height of a candle's flame in a beat, 0 where it has none."""
    need_lights(house, lights)
    need_candle(house, candle)
    if not is_from_to(beat, 0, LAST_BEAT):
        raise NoBeat("a beat is a whole number from 0 to 1,000,000,000,000")
    return flame_in(burnt_tales(house, lights)[candle], beat)


def out_at(house, lights, candle):
    """Tell the beat in which a candle is out, None where it is never lit."""
    need_lights(house, lights)
    need_candle(house, candle)
    return out_of(burnt_tales(house, lights)[candle])


def out_of(tale):
    """Tell the beat in which the candle of this tale is out, or None."""
    if not tale:
        return None
    beat, height, by = tale[-1]
    return beat + height


def causes(house, lights, candle):
    """Tell the light's candle, then the cords, by which a candle is lit first."""
    need_lights(house, lights)
    need_candle(house, candle)
    tales = burnt_tales(house, lights)
    if not tales[candle]:
        return None
    numbers = []
    by = tales[candle][0][2]
    while by is not None:
        numbers.insert(0, by)
        candle = house[1][by][0]
        by = tales[candle][0][2]
    return (candle, *numbers)
