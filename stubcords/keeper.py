"""A keeper: a house and its lights, changed by deeds that can be undone."""

from stubcords.burning import burning
from stubcords.cuts import cut_off
from stubcords.errors import HasLight, NoCord, NoDeed, NoLight
from stubcords.houses import has_light, need_beat, need_candle, need_house
from stubcords.wholes import is_from_to


class Keeper:
    """Keeps a house and lights, at first none, and how they were ahead of each deed."""

    def __init__(self, house):
        need_house(house)
        self._house = house
        self._lights = ()
        self._ahead = []

    def light(self, candle, beat):
        """Give a candle a light in this beat."""
        need_candle(self._house, candle)
        need_beat(beat)
        if has_light(self._lights, candle):
            raise HasLight("the candle has a light")
        self._become(self._house, tuple(sorted([*self._lights, (candle, beat)])))

    def dark(self, candle):
        """Take a candle's light away."""
        need_candle(self._house, candle)
        if not has_light(self._lights, candle):
            raise NoLight("the candle has no light")
        self._become(self._house, tuple([light for light in self._lights if light[0] != candle]))

    def cut(self, cord):
        """Cut a cord off the house."""
        if not is_from_to(cord, 0, len(self._house[1]) - 1):
            raise NoCord("the house has no such cord")
        self._become(cut_off(self._house, (cord,)), self._lights)

    def undo(self):
        """Undo the last deed that stands."""
        if not self._ahead:
            raise NoDeed("no deed stands")
        self._house, self._lights = self._ahead.pop()

    def house(self):
        """Tell the house as it is now."""
        return self._house

    def lights(self):
        """Tell the lights as they are now."""
        return self._lights

    def burning(self):
        """Tell the burning of the house with the lights as they are now."""
        return burning(self._house, self._lights)

    def twin(self):
        """Tell another keeper that stands as this one does, with the same deeds to undo."""
        other = Keeper(self._house)
        other._lights = self._lights
        other._ahead = list(self._ahead)
        return other

    def _become(self, house, lights):
        """Do a deed: keep what was ahead of it, and stand as it makes house and lights."""
        self._ahead.append((self._house, self._lights))
        self._house = house
        self._lights = lights

    def __len__(self):
        return len(self._ahead)

    def __eq__(self, other):
        return isinstance(other, Keeper) and self._house == other._house and self._lights == other._lights

    def __repr__(self):
        return f"Keeper({len(self._house[0])} candles, {len(self._lights)} lights)"
