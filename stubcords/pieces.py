"""What of the candles burns, what falls, and how many flames there are."""

from stubcords.burning import burning, burnt_tales, out_of
from stubcords.houses import need_lights


def pieces(house, lights):
    """Tell for each candle its pieces (low, high, word), from below."""
    need_lights(house, lights)
    return burnt_pieces(house, lights)


def burnt_pieces(house, lights):
    """Make each candle's pieces, of a house and lights that are not refused."""
    tales = burnt_tales(house, lights)
    return tuple([pieces_of(top, tale) for top, tale in zip(house[0], tales)])


def pieces_of(top, tale):
    """Tell the pieces of one candle with this top and this tale."""
    if not tale:
        return ((1, top, "whole"),)
    found = []
    left = top
    for number, (beat, height, by) in enumerate(tale):
        if height < left:
            found.append((height + 1, left, "fallen"))
        left = 0
        if number + 1 < len(tale):
            left = height - (tale[number + 1][0] - beat)
        found.append((left + 1, height, "burnt"))
    return tuple(sorted(found))


def burnt(house, lights):
    """Tell how many parts burn in all."""
    parts = [part for row in pieces(house, lights) for part in row]
    return sum([high - low + 1 for low, high, word in parts if word == "burnt"])


def spans(house, lights):
    """List for each candle that is lit the (beat when first lit, beat when out)."""
    tales, catches = burning(house, lights)
    return [(tale[0][0], out_of(tale)) for tale in tales if tale]


def most_flames(house, lights):
    """Tell the most flames in one beat, with the least such beat."""
    rows = spans(house, lights)
    best = (0, 0)
    # There are more flames than ahead only in a beat in which a candle is lit.
    for beat in sorted([start for start, out in rows]):
        many = len([start for start, out in rows if start <= beat < out])
        if many > best[0]:
            best = (many, beat)
    return best


def last_flame(house, lights):
    """Tell the last beat in which there is a flame, None where there never is."""
    return max([out - 1 for start, out in spans(house, lights)], default=None)
