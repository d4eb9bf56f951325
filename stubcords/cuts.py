"""Cords cut: the house without them, what is dark then and what is lit."""

from stubcords.burning import burnt_tales
from stubcords.errors import NoCords
from stubcords.houses import has_light, need_candle, need_house, need_lights
from stubcords.wholes import all_picks, is_pick


def without(house, cords):
    """Tell the house without these cords."""
    need_house(house)
    if not is_pick(cords, len(house[1])):
        raise NoCords("cords are a rising tuple of the numbers of cords")
    return cut_off(house, cords)


def cut_off(house, cords):
    """Make the house without these cords, where nothing is refused."""
    tops, hung = house
    return tops, tuple([cord for number, cord in enumerate(hung) if number not in cords])


def darkening(house, lights, candle):
    """Tell the least of the fewest cords without which a candle is never lit, or None."""
    return fewest_cords(house, lights, candle, False)


def lighting(house, lights, candle):
    """Tell the least of the fewest cords without which a candle is lit, or None."""
    return fewest_cords(house, lights, candle, True)


def fewest_cords(house, lights, candle, lit):
    """Find the least of the fewest cords without which a candle is lit, or is not."""
    need_lights(house, lights)
    need_candle(house, candle)
    for cords in all_picks(len(house[1])):
        if is_lit(cut_off(house, cords), lights, candle) == lit:
            return cords
    return None


def is_lit(house, lights, candle):
    """Tell whether a candle is ever lit."""
    return burnt_tales(house, lights)[candle] != ()


def lit_by_cut(house, lights):
    """Tell the least (cord, candle): without this cord this dark candle is lit. Or None."""
    need_lights(house, lights)
    tales = burnt_tales(house, lights)
    for cord in range(len(house[1])):
        cut = burnt_tales(cut_off(house, (cord,)), lights)
        for candle, tale in enumerate(tales):
            if tale == () and cut[candle] != ():
                return cord, candle
    return None


def dark_by_light(house, lights):
    """Tell the least (lit, candle): with a light at lit this lit candle is dark. Or None."""
    need_lights(house, lights)
    tales = burnt_tales(house, lights)
    for lit in range(len(house[0])):
        if not has_light(lights, lit):
            more = burnt_tales(house, (*lights, (lit, 0)))
            for candle, tale in enumerate(tales):
                if tale != () and more[candle] == ():
                    return lit, candle
    return None
