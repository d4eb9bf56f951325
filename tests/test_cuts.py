"""Points 50 and 51: cords cut, and what is dark then and what is lit."""

import unittest

import samples
from beat_by_beat import Slow
from stubcords.cuts import dark_by_light, darkening, lighting, lit_by_cut, without
from stubcords.errors import NoCandle, NoCords, NoHouse, NoLights
from stubcords.houses import is_house

CORDS = ((0, 4, 1, 6, 1), (1, 5, 2, 3, 2), (0, 1, 0, 2, 3), (2, 6, 1, 1, 4))
HOUSE = ((5, 6, 7), CORDS)
# Cord 0 sets candle 1 lower than cord 1 hangs, which would light candle 2.
HELD = ((9, 9, 5), ((0, 8, 1, 3, 1), (1, 5, 2, 5, 1)))
BOTH = ((0, 0), (1, 0))


def cut_slowly(house, cords):
    """The house without these cords, straight from the words."""
    return house[0], tuple(cord for at, cord in enumerate(house[1]) if at not in cords)


def fewest(house, lights):
    """For each candle the first cuts, searched through, by which it is dark and lit."""
    dark = [None] * len(house[0])
    lit = [None] * len(house[0])
    for cords in samples.fewest_first(len(house[1])):
        tales = Slow(cut_slowly(house, cords), lights).tales
        for candle, tale in enumerate(tales):
            found = lit if tale else dark
            if found[candle] is None:
                found[candle] = cords
    return dark, lit


class Point50Without(unittest.TestCase):
    def test_the_others_stay_in_their_order(self):
        self.assertEqual(without(HOUSE, (0,)), ((5, 6, 7), CORDS[1:]))
        self.assertEqual(without(HOUSE, (1,)), ((5, 6, 7), (CORDS[0], CORDS[2], CORDS[3])))
        self.assertEqual(without(HOUSE, (3,)), ((5, 6, 7), CORDS[:3]))
        self.assertEqual(without(HOUSE, (0, 2)), ((5, 6, 7), (CORDS[1], CORDS[3])))

    def test_none_or_all_left_out(self):
        for house, lights in samples.SAMPLES:
            self.assertEqual(repr(without(house, ())), repr(house))
            every = tuple(range(len(house[1])))
            self.assertEqual(repr(without(house, every)), repr((house[0], ())))

    def test_all_cuts(self):
        for house, lights in samples.drawn(40, 51, most=7):
            for cords in samples.all_rising(len(house[1])):
                told = without(house, cords)
                self.assertEqual(told, cut_slowly(house, cords))
                self.assertIs(is_house(told), True)

    def test_ten_cords(self):
        house = ((9,), tuple((0, at + 1, 0, 1, 1) for at in range(8)) + ((0, 1, 0, 2, 1),) * 2)
        self.assertEqual(without(house, (0, 1, 2, 3, 4, 5, 6, 7, 9)), ((9,), ((0, 1, 0, 2, 1),)))

    def test_no_cords(self):
        for thing in samples.ANYTHING + ((1, 0), (0, 0), (0, 1, 1), (4,), (0, 4), (-1,), (-1, 0), (True,),
                                         (0, True), (False,), [0, 1], (0, None), ("0",), (9999999999999,)):
            if repr(thing) not in ("()", "(0,)"):
                with self.assertRaises(NoCords, msg=thing):
                    without(HOUSE, thing)

    def test_no_cords_where_the_house_has_none(self):
        self.assertEqual(without(((5,), ()), ()), ((5,), ()))
        for thing in ((0,), (-1,), [], None):
            with self.assertRaises(NoCords):
                without(((5,), ()), thing)
            with self.assertRaises(NoHouse):
                without(((), ()), thing)


class Point50Darkening(unittest.TestCase):
    def test_none_where_it_has_a_light(self):
        self.assertIs(darkening(samples.HOUSE, ((0, 0), (1, 9)), 1), None)
        self.assertIs(darkening(((5,), ()), ((0, 0),), 0), None)

    def test_no_cord_where_it_is_never_lit_as_it_is(self):
        self.assertEqual(repr(darkening(((5,), ()), (), 0)), "()")
        self.assertEqual(repr(darkening(HELD, BOTH, 2)), "()")
        self.assertEqual(repr(darkening(HOUSE, ((1, 0),), 0)), "()")

    def test_one_cord(self):
        self.assertEqual(darkening(samples.HOUSE, samples.LIGHTS, 1), (0,))
        self.assertEqual(darkening(HELD, ((1, 0),), 2), (1,))

    def test_the_least_of_as_few(self):
        chain = ((5,) * 4, ((2, 4, 3, 5, 1), (0, 4, 1, 5, 1), (1, 4, 2, 5, 1)))
        self.assertEqual([darkening(chain, ((0, 0),), candle) for candle in range(4)],
                         [None, (1,), (1,), (0,)])

    def test_cords_side_by_side(self):
        house = ((5, 5), ((0, 4, 1, 5, 1), (1, 3, 0, 1, 1), (0, 3, 1, 5, 1), (0, 3, 1, 5, 1)))
        self.assertEqual(darkening(house, ((0, 0),), 1), (0, 2, 3))

    def test_fewer_cords_ahead_of_lesser_ones(self):
        house = ((5,) * 4, ((0, 4, 1, 5, 1), (0, 4, 2, 5, 1), (1, 4, 3, 5, 1), (2, 4, 3, 5, 1)))
        self.assertEqual(darkening(house, ((0, 0),), 3), (0, 1))
        house = (house[0] + (5,), house[1][:2] + ((1, 4, 4, 5, 1), (2, 4, 4, 5, 1), (4, 2, 3, 5, 1)))
        self.assertEqual(darkening(house, ((0, 0),), 3), (4,))

    def test_a_cut_that_lights_another_cord_is_none(self):
        # Without cord 0 candle 2 is lit through cord 1 instead.
        house = ((9, 9, 5), ((0, 8, 1, 3, 1), (1, 5, 2, 5, 1), (1, 3, 2, 5, 1)))
        self.assertEqual(darkening(house, BOTH, 2), (2,))
        self.assertEqual(darkening((house[0], house[1][::-1]), BOTH, 2), (0,))
        house = ((9, 9, 5), ((0, 8, 1, 3, 1), (1, 5, 2, 5, 1), (0, 7, 2, 5, 9)))
        self.assertEqual(darkening(house, BOTH, 2), (2,))


class Point50Lighting(unittest.TestCase):
    def test_no_cord_where_it_is_lit_as_it_is(self):
        self.assertEqual(repr(lighting(samples.HOUSE, samples.LIGHTS, 1)), "()")
        self.assertEqual(repr(lighting(((5,), ()), ((0, 0),), 0)), "()")

    def test_none_where_nothing_comes_to_it(self):
        self.assertIs(lighting(((5,), ()), (), 0), None)
        self.assertIs(lighting(HOUSE, ((1, 0),), 0), None)
        self.assertIs(lighting(HELD, ((0, 0),), 2), None)

    def test_one_cord(self):
        self.assertEqual(lighting(HELD, BOTH, 2), (0,))

    def test_several_cords(self):
        house = ((9, 9, 5), ((0, 8, 1, 3, 1), (1, 5, 2, 5, 1), (0, 7, 1, 3, 1)))
        self.assertEqual(lighting(house, BOTH, 2), (0, 2))
        house = ((9, 9, 5), ((0, 8, 1, 3, 1),) * 9 + ((1, 5, 2, 5, 1),))
        self.assertEqual(lighting(house, BOTH, 2), tuple(range(9)))

    def test_the_least_of_as_few(self):
        # Candle 0 feeds candle 1 by a chain; any cord of it may be cut.
        house = ((9, 9, 5, 9), ((1, 2, 2, 5, 1), (3, 8, 1, 1, 1), (0, 8, 3, 9, 1)))
        self.assertEqual(lighting(house, BOTH, 2), (1,))
        house = ((9, 9, 5, 9), ((1, 2, 2, 5, 1), (0, 8, 3, 9, 1), (3, 8, 1, 1, 1)))
        self.assertEqual(lighting(house, BOTH, 2), (1,))

    def test_a_candle_lit_low_by_its_own_cord(self):
        # Cord 0 sets candle 0 to 2, below cord 1.
        house = ((9, 4), ((0, 8, 0, 2, 1), (0, 5, 1, 4, 1)))
        self.assertEqual(lighting(house, ((0, 0),), 1), (0,))


class Point50Search(unittest.TestCase):
    def test_against_all_cuts(self):
        seen = {"dark": set(), "lit": set()}
        for house, lights in samples.drawn(400, 52, candles=5, most=6):
            dark, lit = fewest(house, lights)
            for candle in range(len(house[0])):
                told = darkening(house, lights, candle), lighting(house, lights, candle)
                self.assertEqual(repr(told), repr((dark[candle], lit[candle])), (house, lights, candle))
                for name, cords in zip(("dark", "lit"), told):
                    seen[name].add(cords if cords is None else len(cords))
                self.assertEqual(told[0] is None, candle in dict(lights))
        self.assertTrue({None, 0, 1, 2} <= seen["dark"], seen)
        self.assertTrue({None, 0, 1} <= seen["lit"], seen)

    def test_of_seven_candles_and_ten_cords(self):
        house, lights = samples.SAMPLES[8]
        dark, lit = fewest(house, lights)
        for candle in range(7):
            self.assertEqual(darkening(house, lights, candle), dark[candle])
            self.assertEqual(lighting(house, lights, candle), lit[candle])


class Point51(unittest.TestCase):
    def test_lit_by_cut(self):
        self.assertEqual(lit_by_cut(HELD, BOTH), (0, 2))
        self.assertIs(lit_by_cut(HELD, ((1, 0),)), None)
        self.assertIs(lit_by_cut(((5,), ()), ()), None)
        self.assertIs(lit_by_cut(samples.HOUSE, samples.LIGHTS), None)

    def test_the_least_cord_then_the_least_candle(self):
        # Candles 2 and 3 are dark by cord 1; candle 4 by cord 0, whichever is cut first.
        house = ((9, 9, 5, 5, 5, 9), ((0, 8, 5, 3, 1), (0, 8, 1, 3, 1), (1, 5, 3, 5, 1), (1, 5, 2, 5, 1),
                                      (5, 6, 4, 5, 1)))
        lights = ((0, 0), (1, 0), (5, 0))
        self.assertEqual(lit_by_cut(house, lights), (0, 4))
        self.assertEqual(lit_by_cut(without(house, (0,)), lights), (0, 2))

    def test_without_this_cord_alone(self):
        house = ((9, 9, 5), ((0, 8, 1, 3, 1), (1, 5, 2, 5, 1), (0, 7, 1, 3, 1)))
        self.assertIs(lit_by_cut(house, BOTH), None)
        self.assertEqual(lighting(house, BOTH, 2), (0, 2))

    def test_dark_by_light(self):
        self.assertEqual(dark_by_light(HELD, ((1, 0),)), (0, 2))
        self.assertIs(dark_by_light(HELD, BOTH), None)
        self.assertIs(dark_by_light(((5,), ()), ()), None)
        self.assertIs(dark_by_light(((5,), ()), ((0, 0),)), None)

    def test_the_light_more_is_in_beat_0(self):
        # Lit in beat 0, candle 0 sets candle 1 in beat 6; its cord caught in beat 4, or would in 7.
        house = ((9, 9, 5), ((0, 4, 1, 3, 1), (1, 5, 2, 5, 1)))
        self.assertIs(dark_by_light(house, ((1, 0),)), None)
        self.assertEqual(dark_by_light(house, ((1, 3),)), (0, 2))

    def test_a_candle_that_would_be_lit_by_the_light_is_not_dark(self):
        house = ((3, 9), ((0, 2, 1, 9, 1),))
        self.assertIs(dark_by_light(house, ((0, 0),)), None)

    def test_the_least_light_then_the_least_candle(self):
        house = ((9, 9, 9, 5, 5), ((1, 8, 2, 3, 1), (0, 8, 2, 3, 1), (2, 5, 4, 5, 1), (2, 5, 3, 5, 1)))
        self.assertEqual(dark_by_light(house, ((2, 0),)), (0, 3))
        self.assertIs(dark_by_light(house, ((0, 0), (2, 0))), None)
        self.assertEqual(dark_by_light((house[0], house[1][:1] + house[1][2:]), ((2, 0),)), (1, 3))

    def test_against_all_cuts_and_all_lights(self):
        seen = [0, 0]
        for house, lights in samples.drawn(2500, 53):
            cut = self.least_cut(house, lights)
            light = self.least_light(house, lights)
            self.assertEqual(repr(lit_by_cut(house, lights)), repr(cut), (house, lights))
            self.assertEqual(repr(dark_by_light(house, lights)), repr(light), (house, lights))
            seen[0] += cut is not None
            seen[1] += light is not None
        self.assertGreater(min(seen), 10)

    def least_cut(self, house, lights):
        ahead = Slow(house, lights).tales
        rows = []
        for cord in range(len(house[1])):
            tales = Slow(cut_slowly(house, (cord,)), lights).tales
            rows += [(cord, candle) for candle in range(len(tales)) if tales[candle] and not ahead[candle]]
        return min(rows, default=None)

    def least_light(self, house, lights):
        ahead = Slow(house, lights).tales
        rows = []
        for lit in range(len(house[0])):
            if lit not in dict(lights):
                tales = Slow(house, tuple(sorted(lights + ((lit, 0),)))).tales
                rows += [(lit, candle) for candle in range(len(tales)) if ahead[candle] and not tales[candle]]
        return min(rows, default=None)


class Refusals(unittest.TestCase):
    """Point 4: each error of its own class, the first that is due."""

    def test_no_house_no_lights_no_candle(self):
        for ask in (darkening, lighting):
            for thing in (-1, 3, 7, True, False, None, "0", (0,), [0], 9999999999999):
                with self.assertRaises(NoCandle):
                    ask(HOUSE, (), thing)
                with self.assertRaises(NoLights):
                    ask(HOUSE, ((3, 0),), thing)
                with self.assertRaises(NoHouse):
                    ask((HOUSE[0], CORDS + ((0, 5, 1, 1, 1),)), ((3, 0),), thing)
        for ask in (lit_by_cut, dark_by_light):
            for thing in (((1, 0), (0, 0)), [], None, ((0, True),), ((3, 0),)):
                with self.assertRaises(NoLights):
                    ask(HOUSE, thing)
                with self.assertRaises(NoHouse):
                    ask([HOUSE[0], CORDS], thing)


if __name__ == "__main__":
    unittest.main()
