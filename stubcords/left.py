"""By what is left: the candles that were lit in beat 0, told by the pieces."""

from stubcords.burning import burnt_tales
from stubcords.errors import UnlikeMany
from stubcords.houses import need_candle, need_house
from stubcords.pieces import burnt_pieces
from stubcords.wholes import all_picks, is_just, picks_of


def lots_for(house, thing):
    """Tell the rising tuple of the lots whose pieces just this thing is."""
    need_house(house)
    if not isinstance(thing, tuple) or len(thing) != len(house[0]):
        return ()
    lots = lots_to_try(house, thing)
    return tuple(sorted([lot for lot in lots if is_just(thing, left_by(house, lot))]))


def lots_to_try(house, rows):
    """List the lots that might leave these rows, one row for each candle: no other lot does."""
    # A candle of the lot burns from its top. Another one does so only by an
    # ember that comes there, so most candles are seen to be of the lot or not.
    down = [candle for candle, row in enumerate(rows) if burns_from(house[0][candle], row)]
    fed = [candle for candle in down if is_fed_at_top(house, candle)]
    sure = [candle for candle in down if candle not in fed]
    return [tuple(sorted([*sure, *more])) for more in picks_of(fed)]


def burns_from(top, row):
    """Tell whether these are pieces the uppermost of which burnt and ends at the top."""
    if not isinstance(row, tuple) or row == () or not isinstance(row[-1], tuple):
        return False
    return row[-1][1:] == (top, "burnt")


def is_fed_at_top(house, candle):
    """Tell whether a cord ends at the top of this candle."""
    tops, cords = house
    return (candle, tops[candle]) in [(other, to) for one, at, other, to, long in cords]


def parting(one, other):
    """Tell the least lot of the fewest candles whose pieces are unlike in two houses, or None."""
    need_house(one)
    need_house(other)
    if len(one[0]) != len(other[0]):
        raise UnlikeMany("the two houses have not as many candles")
    # The same cords in another order burn alike, by whichever lot.
    if one[0] == other[0] and sorted(one[1]) == sorted(other[1]):
        return None
    for lot in all_picks(len(one[0])):
        if left_by(one, lot) != left_by(other, lot):
            return lot
    return None


def lighting_all(house):
    """Tell the least lot of the fewest candles by which all candles are lit sometime."""
    need_house(house)
    lots = all_picks(len(house[0]))
    # The lot of all candles lights them all, so the search comes to an end.
    while () in burnt_tales(house, all_at_once(lots[0])):
        lots.pop(0)
    return lots[0]


def burning_down(house, candle):
    """Tell the least lot of the fewest with which a candle burns in all its parts, or None."""
    need_house(house)
    need_candle(house, candle)
    for lot in all_picks(len(house[0])):
        if left_by(house, lot)[candle] == ((1, house[0][candle], "burnt"),):
            return lot
    return None


def left_by(house, lot):
    """Tell the pieces where all candles of a lot are lit in beat 0."""
    return burnt_pieces(house, all_at_once(lot))


def all_at_once(lot):
    """Make the lights of a lot: each of its candles in beat 0."""
    return tuple([(candle, 0) for candle in lot])
