"""Points 10 and 11: what is a house, what are lights of it."""

import unittest

import samples
from stubcords.errors import NoHouse
from stubcords.houses import are_lights, is_house

TOPS = (5, 4)
CORD = (0, 2, 1, 3, 6)


def house_with(place, value):
    """A house of one cord, with this value at one place of the cord."""
    cord = list(CORD)
    cord[place] = value
    return (TOPS, (tuple(cord),))


class Point10(unittest.TestCase):
    def houses(self, *things):
        for thing in things:
            self.assertIs(is_house(thing), True, thing)

    def none_is_a_house(self, *things):
        for thing in things:
            self.assertIs(is_house(thing), False, thing)

    def test_ordinary_houses(self):
        self.houses(*(house for house, lights in samples.SAMPLES))
        self.houses(*(house for house, lights in samples.drawn(200, 1)))

    def test_from_one_to_seven_candles(self):
        self.houses(((1,), ()), ((1,) * 7, ()), ((1000000,) * 7, ()))
        self.none_is_a_house(((), ()), ((1,) * 8, ()))

    def test_from_none_to_ten_cords(self):
        self.houses((TOPS, ()), (TOPS, (CORD,)), (TOPS, (CORD,) * 10))
        self.none_is_a_house((TOPS, (CORD,) * 11))

    def test_tops_from_1_to_1000000(self):
        self.houses(((1,), ()), ((1000000,), ()), ((1, 1000000), ()))
        self.none_is_a_house(((0,), ()), ((1000001,), ()), ((-1,), ()), ((1, 0), ()),
                             ((1000001, 1), ()), ((9999999999999,), ()))

    def test_a_cord_hangs_at_a_candle(self):
        self.houses(house_with(0, 0), house_with(0, 1))
        self.none_is_a_house(house_with(0, -1), house_with(0, 2), house_with(0, 7))

    def test_a_cord_hangs_below_the_top(self):
        self.houses(house_with(1, 1), house_with(1, 4))
        self.none_is_a_house(house_with(1, 0), house_with(1, 5), house_with(1, -1))
        self.none_is_a_house((TOPS, ((1, 4, 0, 1, 1),)))
        self.houses((TOPS, ((1, 3, 0, 1, 1),)))

    def test_no_cord_hangs_at_a_candle_of_height_1(self):
        self.houses(((2, 1), ((0, 1, 1, 1, 1),)))
        self.none_is_a_house(((2, 1), ((1, 1, 0, 1, 1),)), ((2, 1), ((1, 0, 0, 1, 1),)))

    def test_a_cord_ends_at_a_candle_perhaps_the_same(self):
        self.houses(house_with(2, 0), house_with(2, 1))
        self.none_is_a_house(house_with(2, -1), house_with(2, 2))

    def test_a_cord_ends_at_a_height_up_to_the_top(self):
        self.houses(house_with(3, 1), house_with(3, 4))
        self.none_is_a_house(house_with(3, 0), house_with(3, 5), house_with(3, -1))
        self.houses((TOPS, ((1, 3, 0, 5, 1),)))
        self.none_is_a_house((TOPS, ((1, 3, 0, 6, 1),)))

    def test_an_ember_takes_from_1_to_1000000_beats(self):
        self.houses(house_with(4, 1), house_with(4, 1000000))
        self.none_is_a_house(house_with(4, 0), house_with(4, 1000001), house_with(4, -1))

    def test_every_cord_is_looked_at(self):
        for at in range(10):
            cords = [CORD] * 10
            cords[at] = (0, 5, 1, 3, 6)
            self.none_is_a_house((TOPS, tuple(cords)))

    def test_a_truth_stands_for_no_number(self):
        self.none_is_a_house(((True,), ()), ((5, True), ()))
        for place in range(5):
            self.none_is_a_house(house_with(place, True), house_with(place, False))

    def test_things_of_other_kinds_in_each_place(self):
        for thing in samples.ANYTHING:
            if isinstance(thing, bool) or not isinstance(thing, int):
                self.none_is_a_house(((thing,), ()), ((5, thing), ()), (TOPS, (thing,)),
                                     (TOPS, (CORD, thing)))
                for place in range(5):
                    self.none_is_a_house(house_with(place, thing))
            self.none_is_a_house((thing, (CORD,)))
            if thing != ():
                self.none_is_a_house((TOPS, thing))

    def test_lists_in_place_of_tuples(self):
        self.none_is_a_house([TOPS, ()], ([5, 4], ()), (TOPS, []), (TOPS, [CORD]),
                             (TOPS, (list(CORD),)))

    def test_parts_left_out_or_put_in(self):
        self.none_is_a_house((), (TOPS,), (TOPS, (), ()), (TOPS, (CORD[:4],)),
                             (TOPS, (CORD + (1,),)), (TOPS, ((),)), (TOPS, CORD))

    def test_of_anything(self):
        for thing in samples.ANYTHING:
            self.assertIs(is_house(thing), samples.alike(thing, ((3,), ())), thing)


class Point11(unittest.TestCase):
    house = ((5, 4, 3), (CORD,))

    def lights(self, *things):
        for thing in things:
            self.assertIs(are_lights(self.house, thing), True, thing)

    def no_lights(self, *things):
        for thing in things:
            self.assertIs(are_lights(self.house, thing), False, thing)

    def test_ordinary_lights(self):
        self.lights((), ((0, 0),), ((2, 7),), ((0, 3), (1, 3)), ((0, 9), (1, 4), (2, 0)))

    def test_beats_from_0_to_1000000(self):
        self.lights(((1, 0),), ((1, 1000000),))
        self.no_lights(((1, -1),), ((1, 1000001),), ((0, 1), (1, -1)), ((0, 1000001), (1, 1)))

    def test_candles_of_this_house(self):
        self.lights(((2, 0),))
        self.no_lights(((3, 0),), ((-1, 0),), ((0, 0), (3, 0)), ((-1, 0), (0, 0)))
        self.assertIs(are_lights(((5,), ()), ((1, 0),)), False)
        self.assertIs(are_lights(((5,), ()), ((0, 0),)), True)

    def test_rising(self):
        self.no_lights(((1, 0), (0, 0)), ((1, 0), (0, 5)), ((0, 0), (2, 0), (1, 0)),
                       ((2, 0), (0, 0), (1, 0)))

    def test_each_candle_once_at_the_most(self):
        self.no_lights(((0, 0), (0, 0)), ((0, 0), (0, 1)), ((0, 1), (0, 0)),
                       ((0, 0), (1, 1), (1, 2)))

    def test_all_seven_candles(self):
        house = ((1,) * 7, ())
        self.assertIs(are_lights(house, tuple((candle, 6 - candle) for candle in range(7))), True)
        self.assertIs(are_lights(house, tuple((candle, 0) for candle in range(8))), False)

    def test_a_truth_stands_for_no_number(self):
        self.no_lights(((True, 0),), ((False, 0),), ((0, True),), ((0, False),))

    def test_lists_in_place_of_tuples(self):
        self.no_lights([], [(0, 0)], ([0, 0],), ((0, 0), [1, 0]))

    def test_things_of_other_kinds_in_each_place(self):
        for thing in samples.ANYTHING:
            if isinstance(thing, bool) or not isinstance(thing, int):
                self.no_lights(((thing, 0),), ((0, thing),))
            if thing not in ((0, 0), (True, False)):
                self.no_lights((thing,))
        self.no_lights(((True, False),), ((0,),), ((0, 0, 0),), (0, 0))

    def test_of_anything(self):
        for thing in samples.ANYTHING:
            is_so = samples.alike(thing, ()) or samples.alike(thing, ((0, 0),))
            self.assertIs(are_lights(self.house, thing), is_so, thing)

    def test_no_house_is_refused(self):
        for thing in samples.ANYTHING:
            if not is_house(thing):
                with self.assertRaises(NoHouse):
                    are_lights(thing, ())
                with self.assertRaises(NoHouse):
                    are_lights(thing, thing)


if __name__ == "__main__":
    unittest.main()
