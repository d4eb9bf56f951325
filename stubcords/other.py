"""Houses and lights made of others: later, stretched, side by side, in another order."""

from stubcords.errors import NoOrder, NoTimes, TooMany, TooMuch
from stubcords.houses import GREATEST, MOST_CANDLES, MOST_CORDS, need_beat, need_house, need_lights
from stubcords.wholes import is_from_to, is_whole


def later(house, lights, by):
    """Tell the lights so many beats later."""
    need_lights(house, lights)
    need_beat(by)
    moved = tuple([(candle, beat + by) for candle, beat in lights])
    need_not_too_much([beat for candle, beat in moved])
    return moved


def stretched(house, times):
    """Tell the house with all heights, and the beats of all embers, so many times as great."""
    need_house(house)
    if not is_from_to(times, 1, GREATEST):
        raise NoTimes("so many times is a whole number from 1 to 1,000,000")
    tops = tuple([top * times for top in house[0]])
    cords = tuple([
        (one, at * times, other, to * times, long * times) for one, at, other, to, long in house[1]
    ])
    # No cord hangs or ends above a top.
    need_not_too_much([*tops, *[long for one, at, other, to, long in cords]])
    return tops, cords


def need_not_too_much(numbers):
    """Refuse numbers the greatest of which is too much."""
    much = max(numbers, default=0)
    if much > GREATEST:
        raise TooMuch(much, GREATEST)


def beside(one, other):
    """Tell both houses side by side as one, the second's numbers behind the first's."""
    need_house(one)
    need_house(other)
    need_not_too_many(len(one[0]) + len(other[0]), MOST_CANDLES)
    need_not_too_many(len(one[1]) + len(other[1]), MOST_CORDS)
    numbers = [len(one[0]) + candle for candle in range(len(other[0]))]
    return one[0] + other[0], one[1] + renumbered(other[1], numbers)


def need_not_too_many(many, most):
    """Refuse more of something than a house may have."""
    if many > most:
        raise TooMany(many, most)


def in_order(house, order):
    """Tell the house with its candles in this order, the first of it as candle 0."""
    need_house(house)
    tops, cords = house
    if not is_order(order, len(tops)):
        raise NoOrder("an order is a tuple of all candles' numbers, each once")
    numbers = [order.index(candle) for candle in range(len(tops))]
    return tuple([tops[candle] for candle in order]), renumbered(cords, numbers)


def is_order(thing, many):
    """Tell whether this is a tuple of all numbers below many, each once."""
    if not isinstance(thing, tuple) or not all([is_whole(number) for number in thing]):
        return False
    return sorted(thing) == list(range(many))


def renumbered(cords, numbers):
    """Tell the cords where each candle has another number: the one at its place in numbers."""
    return tuple([(numbers[one], at, numbers[other], to, long) for one, at, other, to, long in cords])
