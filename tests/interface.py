"""The functions of the interface, and what each refuses, in the document's order."""

import samples
from stubcords.burning import burning, causes, height_at, is_burning, out_at
from stubcords.cuts import dark_by_light, darkening, lighting, lit_by_cut, without
from stubcords.errors import (
    HasLight, NoBeat, NoCandle, NoCords, NoHouse, NoLights, NoLot, NotClosed, NotTops, StubError,
    UnlikeMany,
)
from stubcords.houses import are_lights, is_house
from stubcords.left import burning_down, lighting_all, lots_for, parting
from stubcords.lots import closed_with, is_closed, own_house, own_lights
from stubcords.pieces import burnt, last_flame, most_flames, pieces
from stubcords.tops import cut_and_rows, first_beats, is_top_house, shows_beats, shows_cut

HOUSE = (NoHouse,)
LIGHTS = (NoHouse, NoLights)
CANDLE = (NoHouse, NoLights, NoCandle)
TOPS = (NoHouse, NotTops, NoLights)
UNLIT = (NoHouse, NotTops, NoLights, NoCandle, HasLight)

# Each function with its arguments' names and its refusals, both in their order.
FUNCTIONS = (
    (is_house, ("thing",), ()),
    (are_lights, ("house", "thing"), HOUSE),
    (burning, ("house", "lights"), LIGHTS),
    (is_burning, ("house", "lights", "thing"), LIGHTS),
    (height_at, ("house", "lights", "candle", "beat"), CANDLE + (NoBeat,)),
    (out_at, ("house", "lights", "candle"), CANDLE),
    (causes, ("house", "lights", "candle"), CANDLE),
    (pieces, ("house", "lights"), LIGHTS),
    (burnt, ("house", "lights"), LIGHTS),
    (most_flames, ("house", "lights"), LIGHTS),
    (last_flame, ("house", "lights"), LIGHTS),
    (is_closed, ("house", "lot"), (NoHouse, NoLot)),
    (closed_with, ("house", "lot"), (NoHouse, NoLot)),
    (own_house, ("house", "lot"), (NoHouse, NoLot, NotClosed)),
    (own_lights, ("house", "lights", "lot"), (NoHouse, NoLights, NoLot, NotClosed)),
    (without, ("house", "cords"), (NoHouse, NoCords)),
    (darkening, ("house", "lights", "candle"), CANDLE),
    (lighting, ("house", "lights", "candle"), CANDLE),
    (lit_by_cut, ("house", "lights"), LIGHTS),
    (dark_by_light, ("house", "lights"), LIGHTS),
    (lots_for, ("house", "thing"), HOUSE),
    (parting, ("one", "other"), (NoHouse, UnlikeMany)),
    (lighting_all, ("house",), HOUSE),
    (burning_down, ("house", "candle"), (NoHouse, NoCandle)),
    (is_top_house, ("house",), HOUSE),
    (first_beats, ("house", "lights"), TOPS),
    (shows_beats, ("house", "lights", "thing"), TOPS),
    (cut_and_rows, ("house", "lights", "candle"), UNLIT),
    (shows_cut, ("house", "lights", "candle", "thing"), UNLIT),
)
FILES = (
    ("houses",) * 2 + ("burning",) * 5 + ("pieces",) * 4 + ("lots",) * 4 + ("cuts",) * 5
    + ("left",) * 4 + ("tops",) * 5
)
OF_TOPS = (first_beats, shows_beats, cut_and_rows, shows_cut)


def good(function, house, lights):
    """Arguments by their names that the function doesn't refuse."""
    candle = 0
    if function in OF_TOPS:
        house, lights = samples.topped(house), lights[:len(house[0]) - 1]
        while candle in [lit for lit, beat in lights]:
            candle += 1
    things = {
        lots_for: lambda: pieces(house, ((0, 0),)),
        shows_beats: lambda: first_beats(house, lights),
        shows_cut: lambda: cut_and_rows(house, lights, candle),
    }
    return {
        "house": house, "one": house, "other": house, "lights": lights, "candle": candle,
        "beat": 4, "lot": tuple(range(len(house[0]))), "cords": tuple(range(len(house[1]))),
        "thing": things.get(function, lambda: burning(house, lights))(),
    }


def values_for(function, names, house, lights):
    """The values of good, in the order of these names."""
    values = good(function, house, lights)
    return [values[name] for name in names]


def is_number(thing, many):
    return type(thing) is int and 0 <= thing < many


def are_rising(thing, many):
    return (type(thing) is tuple and all(is_number(part, many) for part in thing)
            and list(thing) == sorted(set(thing)))


def is_fed(house, lot):
    return any(cord[2] in lot and cord[0] not in lot for cord in house[1])


# What each refusal is due of, where none ahead of it is due.
IS_DUE = {
    NoHouse: lambda told: not all(is_house(told[name]) for name in ("house", "one", "other")
                                  if name in told),
    NoLights: lambda told: not are_lights(told["house"], told["lights"]),
    NoCandle: lambda told: not is_number(told["candle"], len(told["house"][0])),
    NoBeat: lambda told: not is_number(told["beat"], 10 ** 12 + 1),
    NoLot: lambda told: not are_rising(told["lot"], len(told["house"][0])),
    NotClosed: lambda told: told["lot"] == () or is_fed(told["house"], told["lot"]),
    NoCords: lambda told: not are_rising(told["cords"], len(told["house"][1])),
    UnlikeMany: lambda told: len(told["one"][0]) != len(told["other"][0]),
    NotTops: lambda told: any(cord[3] != told["house"][0][cord[2]] for cord in told["house"][1]),
    HasLight: lambda told: told["candle"] in [light[0] for light in told["lights"]],
}


def refusal(names, refusals, values):
    """The class of the first refusal that is due, or None."""
    told = dict(zip(names, values))
    for refused in refusals:
        if IS_DUE[refused](told):
            return refused
    return None


def answer(function, values):
    """What the function tells, or the class of its refusal."""
    try:
        return function(*values)
    except StubError as refused:
        return type(refused)


def refused_by(function, values):
    """The class of the function's refusal of these values, or None."""
    told = answer(function, values)
    return told if isinstance(told, type) else None
