"""By what is left: the candles that were lit in beat 0, told by the pieces."""

from stubcords.burning import burnt_tales
from stubcords.errors import UnlikeMany
from stubcords.houses import need_candle, need_house
from stubcords.pieces import pieces
from stubcords.wholes import all_picks, is_just


def lots_for(house, thing):
    """Tell the rising tuple of the lots whose pieces just this thing is."""
    need_house(house)
    lots = all_picks(len(house[0]))
    return tuple(sorted([lot for lot in lots if is_just(thing, left_by(house, lot))]))


def parting(one, other):
    """Tell the least lot of the fewest candles whose pieces are unlike in two houses, or None."""
    need_house(one)
    need_house(other)
    if len(one[0]) != len(other[0]):
        raise UnlikeMany("the two houses have not as many candles")
    for lot in all_picks(len(one[0])):
        if left_by(one, lot) != left_by(other, lot):
            return lot
    return None


def lighting_all(house):
    """Tell the least lot of the fewest candles by which all candles are lit sometime."""
    need_house(house)
    lots = all_picks(len(house[0]))
    # The lot of all candles lights them all, so there is a first one.
    return [lot for lot in lots if () not in burnt_tales(house, all_at_once(lot))][0]


def burning_down(house, candle):
    """Tell the least lot of the fewest with which a candle burns in all its parts, or None."""
    need_house(house)
    need_candle(house, candle)
    for lot in all_picks(len(house[0])):
        if left_by(house, lot)[candle] == ((1, house[0][candle], "burnt"),):
            return lot
    return None


def left_by(house, lot):
    """Tell the pieces where all candles of a lot are lit in beat 0."""
    return pieces(house, all_at_once(lot))


def all_at_once(lot):
    """Make the lights of a lot: each of its candles in beat 0."""
    return tuple([(candle, 0) for candle in lot])
