"""Houses, the lights in them, and the refusal of what is neither."""

from stubcords.errors import NoBeat, NoCandle, NoHouse, NoLights
from stubcords.wholes import are_rising, is_from_to

MOST_CANDLES = 7
MOST_CORDS = 10
GREATEST = 1000000


def is_house(thing):
    """Tell whether this is a house: a tuple (tops, cords)."""
    if not isinstance(thing, tuple) or len(thing) != 2:
        return False
    tops, cords = thing
    return are_tops(tops) and are_cords(tops, cords)


def are_tops(thing):
    """Tell whether these are the tops of a house."""
    if not isinstance(thing, tuple) or not 1 <= len(thing) <= MOST_CANDLES:
        return False
    return all([is_from_to(top, 1, GREATEST) for top in thing])


def are_cords(tops, thing):
    """Tell whether these are the cords of a house with these tops."""
    if not isinstance(thing, tuple) or len(thing) > MOST_CORDS:
        return False
    return all([is_cord(tops, cord) for cord in thing])


def is_cord(tops, thing):
    """Tell whether this is a cord (one, at, other, to, long) below these tops."""
    if not isinstance(thing, tuple) or len(thing) != 5:
        return False
    one, at, other, to, long = thing
    return (
        is_from_to(one, 0, len(tops) - 1)
        and is_from_to(at, 1, tops[one] - 1)
        and is_from_to(other, 0, len(tops) - 1)
        and is_from_to(to, 1, tops[other])
        and is_from_to(long, 1, GREATEST)
    )


def is_candle(house, thing):
    """Tell whether this is the number of a candle of a house."""
    return is_from_to(thing, 0, len(house[0]) - 1)


def are_lights(house, thing):
    """Tell whether these are lights of a house: a rising tuple of (candle, beat)."""
    need_house(house)
    if not isinstance(thing, tuple):
        return False
    if not all([is_light(house, light) for light in thing]):
        return False
    # Each candle stands once at the most, so the candles alone must rise.
    return are_rising([candle for candle, beat in thing])


def is_light(house, thing):
    """Tell whether this is one light (candle, beat) of a house."""
    if not isinstance(thing, tuple) or len(thing) != 2:
        return False
    candle, beat = thing
    return is_candle(house, candle) and is_from_to(beat, 0, GREATEST)


def has_light(lights, candle):
    """Tell whether a candle has one of these lights."""
    return candle in [lit for lit, beat in lights]


def need_house(house):
    """Refuse what is no house."""
    if not is_house(house):
        raise NoHouse("a house is a tuple (tops, cords)")


def need_lights(house, lights):
    """Refuse what is no house, then what are no lights of it."""
    if not are_lights(house, lights):
        raise NoLights("lights are a rising tuple of tuples (candle, beat)")


def need_candle(house, candle):
    """Refuse what is no candle of this house."""
    if not is_candle(house, candle):
        raise NoCandle("the house has no such candle")


def need_beat(beat):
    """Refuse what is no beat of a light, nor so many beats as lights may be later."""
    if not is_from_to(beat, 0, GREATEST):
        raise NoBeat("a beat is a whole number from 0 to 1,000,000")
