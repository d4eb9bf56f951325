"""Lots of candles that nothing else feeds, and their own houses."""

from stubcords.errors import NoLot, NotClosed
from stubcords.houses import need_house, need_lights
from stubcords.wholes import is_pick


def is_closed(house, lot):
    """Tell whether each cord that ends at a candle of the lot hangs at one of it."""
    need_lot(house, lot)
    return feeders(house, lot) == []


def closed_with(house, lot):
    """Tell the least closed lot that has all candles of this lot."""
    need_lot(house, lot)
    found = list(lot)
    more = feeders(house, found)
    while more:
        found = found + more
        more = feeders(house, found)
    return tuple(sorted(found))


def feeders(house, lot):
    """List the candles beside the lot at which a cord hangs that ends in it."""
    return sorted({one for one, at, other, to, long in house[1] if other in lot and one not in lot})


def own_house(house, lot):
    """Tell the own house of a closed lot: its candles, and all cords that end at them."""
    need_closed(house, lot)
    tops = tuple([house[0][candle] for candle in lot])
    cords = []
    for one, at, other, to, long in house[1]:
        if other in lot:
            cords.append((lot.index(one), at, lot.index(other), to, long))
    return tops, tuple(cords)


def own_lights(house, lights, lot):
    """Tell the lights of a closed lot's own house."""
    need_lights(house, lights)
    need_closed(house, lot)
    return tuple([(lot.index(candle), beat) for candle, beat in lights if candle in lot])


def need_lot(house, lot):
    """Refuse what is no house, then what is no lot of it."""
    need_house(house)
    if not is_pick(lot, len(house[0])):
        raise NoLot("a lot is a rising tuple of candles")


def need_closed(house, lot):
    """Refuse what is no lot of a house, then the empty one and one that isn't closed."""
    if not is_closed(house, lot) or lot == ():
        raise NotClosed("a lot with its own house is closed and has a candle")
