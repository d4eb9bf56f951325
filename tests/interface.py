"""The functions of the interface, and what each refuses, in the document's order."""

import re

import samples
from stubcords.burning import burning, causes, height_at, is_burning, out_at
from stubcords.cuts import dark_by_light, darkening, lighting, lit_by_cut, without
from stubcords.errors import (
    HasLight, NoBeat, NoCandle, NoCords, NoHouse, NoLights, NoLot, NoOrder, NoText, NoTimes, NotClosed,
    NotTops, StubError, TooMany, TooMuch, UnlikeMany,
)
from stubcords.houses import are_lights, is_house
from stubcords.left import burning_down, lighting_all, lots_for, parting
from stubcords.lots import closed_with, is_closed, own_house, own_lights
from stubcords.other import beside, in_order, later, stretched
from stubcords.pieces import burnt, last_flame, most_flames, pieces
from stubcords.texts import house_text, read_house
from stubcords.tops import cut_and_rows, first_beats, is_top_house, shows_beats, shows_cut

HOUSE = (NoHouse,)
LIGHTS = (NoHouse, NoLights)
CANDLE = (NoHouse, NoLights, NoCandle)
TOPS = (NoHouse, NotTops, NoLights)
UNLIT = (NoHouse, NotTops, NoLights, NoCandle, HasLight)

# Each function with its arguments' names and its refusals, both in their order.
FUNCTIONS = (
    (is_house, ("thing",), ()),
    (are_lights, ("house", "thing"), HOUSE),
    (burning, ("house", "lights"), LIGHTS),
    (is_burning, ("house", "lights", "thing"), LIGHTS),
    (height_at, ("house", "lights", "candle", "beat"), CANDLE + (NoBeat,)),
    (out_at, ("house", "lights", "candle"), CANDLE),
    (causes, ("house", "lights", "candle"), CANDLE),
    (pieces, ("house", "lights"), LIGHTS),
    (burnt, ("house", "lights"), LIGHTS),
    (most_flames, ("house", "lights"), LIGHTS),
    (last_flame, ("house", "lights"), LIGHTS),
    (is_closed, ("house", "lot"), (NoHouse, NoLot)),
    (closed_with, ("house", "lot"), (NoHouse, NoLot)),
    (own_house, ("house", "lot"), (NoHouse, NoLot, NotClosed)),
    (own_lights, ("house", "lights", "lot"), (NoHouse, NoLights, NoLot, NotClosed)),
    (without, ("house", "cords"), (NoHouse, NoCords)),
    (darkening, ("house", "lights", "candle"), CANDLE),
    (lighting, ("house", "lights", "candle"), CANDLE),
    (lit_by_cut, ("house", "lights"), LIGHTS),
    (dark_by_light, ("house", "lights"), LIGHTS),
    (lots_for, ("house", "thing"), HOUSE),
    (parting, ("one", "other"), (NoHouse, UnlikeMany)),
    (lighting_all, ("house",), HOUSE),
    (burning_down, ("house", "candle"), (NoHouse, NoCandle)),
    (is_top_house, ("house",), HOUSE),
    (first_beats, ("house", "lights"), TOPS),
    (shows_beats, ("house", "lights", "thing"), TOPS),
    (cut_and_rows, ("house", "lights", "candle"), UNLIT),
    (shows_cut, ("house", "lights", "candle", "thing"), UNLIT),
    (later, ("house", "lights", "by"), LIGHTS + (NoBeat, TooMuch)),
    (stretched, ("house", "times"), (NoHouse, NoTimes, TooMuch)),
    (beside, ("one", "other"), (NoHouse, TooMany)),
    (in_order, ("house", "order"), (NoHouse, NoOrder)),
    (house_text, ("house",), HOUSE),
    (read_house, ("text",), (NoText,)),
)
FILES = (
    ("houses",) * 2 + ("burning",) * 5 + ("pieces",) * 4 + ("lots",) * 4 + ("cuts",) * 5
    + ("left",) * 4 + ("tops",) * 5 + ("other",) * 4 + ("texts",) * 2
)
MILLION = 1000000
OF_TOPS = (first_beats, shows_beats, cut_and_rows, shows_cut)


def good(function, house, lights):
    """Arguments by their names that the function doesn't refuse."""
    candle = 0
    if function in OF_TOPS:
        house, lights = samples.topped(house), lights[:len(house[0]) - 1]
        while candle in [lit for lit, beat in lights]:
            candle += 1
    things = {
        lots_for: lambda: pieces(house, ((0, 0),)),
        shows_beats: lambda: first_beats(house, lights),
        shows_cut: lambda: cut_and_rows(house, lights, candle),
    }
    one = samples.HOUSE if function is beside else house
    other = samples.HOUSE if function is beside and len(house[0]) > 5 else house
    return {
        "house": house, "one": one, "other": other, "lights": lights, "candle": candle,
        "beat": 4, "lot": tuple(range(len(house[0]))), "cords": tuple(range(len(house[1]))),
        "thing": things.get(function, lambda: burning(house, lights))(),
        "by": min(5, MILLION - max(dict(lights).values(), default=0)),
        "times": min(3, MILLION // greatest(house)), "order": tuple(range(len(house[0])))[::-1],
        "text": samples.written(house),
    }


def greatest(house):
    """The greatest of all tops, at, to and long of a house."""
    return max([*house[0], *(number for one, at, other, to, long in house[1]
                             for number in (at, to, long))])


def values_for(function, names, house, lights):
    """The values of good, in the order of these names."""
    values = good(function, house, lights)
    return [values[name] for name in names]


def is_number(thing, many):
    return type(thing) is int and 0 <= thing < many


def are_rising(thing, many):
    return (type(thing) is tuple and all(is_number(part, many) for part in thing)
            and list(thing) == sorted(set(thing)))


def is_order(thing, many):
    return (type(thing) is tuple and all(is_number(part, many) for part in thing)
            and sorted(thing) == list(range(many)))


def writes_a_house(thing):
    """Whether this is a house's text [100], read otherwise than the program does."""
    number = "(0|[1-9][0-9]*)"
    cord = f" {number}@{number}>{number}@{number}[+]{number}"
    if type(thing) is not str or not re.fullmatch(f"{number}(,{number})*({cord})*", thing, re.ASCII):
        return False
    tops, *cords = thing.split(" ")
    return is_house((tuple(int(top) for top in tops.split(",")),
                     tuple(tuple(int(part) for part in re.findall("[0-9]+", cord)) for cord in cords)))


def is_fed(house, lot):
    return any(cord[2] in lot and cord[0] not in lot for cord in house[1])


# What each refusal is due of, where none ahead of it is due.
IS_DUE = {
    NoHouse: lambda told: not all(is_house(told[name]) for name in ("house", "one", "other")
                                  if name in told),
    NoLights: lambda told: not are_lights(told["house"], told["lights"]),
    NoCandle: lambda told: not is_number(told["candle"], len(told["house"][0])),
    NoBeat: lambda told: not (is_number(told["beat"], 10 ** 12 + 1) if "beat" in told
                              else is_number(told["by"], MILLION + 1)),
    NoLot: lambda told: not are_rising(told["lot"], len(told["house"][0])),
    NotClosed: lambda told: told["lot"] == () or is_fed(told["house"], told["lot"]),
    NoCords: lambda told: not are_rising(told["cords"], len(told["house"][1])),
    UnlikeMany: lambda told: len(told["one"][0]) != len(told["other"][0]),
    NotTops: lambda told: any(cord[3] != told["house"][0][cord[2]] for cord in told["house"][1]),
    HasLight: lambda told: told["candle"] in [light[0] for light in told["lights"]],
    NoTimes: lambda told: told["times"] == 0 or not is_number(told["times"], MILLION + 1),
    TooMuch: lambda told: MILLION < (told["times"] * greatest(told["house"]) if "times" in told else
                                     max([light[1] + told["by"] for light in told["lights"]], default=0)),
    TooMany: lambda told: (len(told["one"][0]) + len(told["other"][0]) > 7
                           or len(told["one"][1]) + len(told["other"][1]) > 10),
    NoOrder: lambda told: not is_order(told["order"], len(told["house"][0])),
    NoText: lambda told: not writes_a_house(told["text"]),
}


def refusal(names, refusals, values):
    """The class of the first refusal that is due, or None."""
    told = dict(zip(names, values))
    for refused in refusals:
        if IS_DUE[refused](told):
            return refused
    return None


def answer(function, values):
    """What the function tells, or the class of its refusal."""
    try:
        return function(*values)
    except StubError as refused:
        return type(refused)


def refused_by(function, values):
    """The class of the function's refusal of these values, or None."""
    told = answer(function, values)
    return told if isinstance(told, type) else None
