"""Top houses: the first beats as prices, the fewest cords as rows without a common one."""

from stubcords.burning import burnt_tales
from stubcords.cuts import cut_off, darkening, is_lit
from stubcords.errors import HasLight, NotTops
from stubcords.houses import has_light, need_candle, need_house, need_lights
from stubcords.rows import are_apart, is_row, rows_apart
from stubcords.wholes import is_pick, is_whole_or_none


def is_top_house(house):
    """Tell whether each cord ends at the top of its candle other."""
    need_house(house)
    return all([to == house[0][other] for one, at, other, to, long in house[1]])


def first_beats(house, lights):
    """Tell for each candle the beat in which it is lit, None where it never is."""
    need_tops(house, lights)
    return tuple([tale[0][0] if tale else None for tale in burnt_tales(house, lights)])


def shows_beats(house, lights, thing):
    """Tell whether these are the first beats, judged candle by candle."""
    need_tops(house, lights)
    if not isinstance(thing, tuple) or len(thing) != len(house[0]):
        return False
    if not all([is_whole_or_none(beat) for beat in thing]):
        return False
    offers = [offers_to(house, lights, thing, candle) for candle in range(len(thing))]
    return all([beat == min(row, default=None) for beat, row in zip(thing, offers)])


def offers_to(house, lights, beats, candle):
    """List the beats in which a light or an ember comes to a candle, by the others' beats."""
    tops, cords = house
    offers = [beat for lit, beat in lights if lit == candle]
    for one, at, other, to, long in cords:
        if other == candle and beats[one] is not None:
            offers.append(beats[one] + tops[one] - at + long)
    return offers


def cut_and_rows(house, lights, candle):
    """Tell the fewest cords that darken a candle, and as many rows without a common cord."""
    need_without_light(house, lights, candle)
    lit = [start for start, beat in lights]
    return darkening(house, lights, candle), rows_apart(house[1], lit, candle)


def shows_cut(house, lights, candle, thing):
    """Tell whether this is cords that darken a candle, with as many rows apart."""
    need_without_light(house, lights, candle)
    if not isinstance(thing, tuple) or len(thing) != 2:
        return False
    cords, rows = thing
    if not is_pick(cords, len(house[1])) or not isinstance(rows, tuple) or len(rows) != len(cords):
        return False
    lit = [start for start, beat in lights]
    if not all([is_row(house[1], lit, candle, row) for row in rows]) or not are_apart(rows):
        return False
    return not is_lit(cut_off(house, cords), lights, candle)


def need_tops(house, lights):
    """Refuse what is no house, then what is no top house, then what are no lights of it."""
    if not is_top_house(house):
        raise NotTops("each cord of a top house ends at a top")
    need_lights(house, lights)


def need_without_light(house, lights, candle):
    """Refuse what need_tops does, then what is no candle, then one that has a light."""
    need_tops(house, lights)
    need_candle(house, candle)
    if has_light(lights, candle):
        raise HasLight("the candle has a light")
