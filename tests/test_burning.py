"""Points 20 to 23: the burning, and what is told of it."""

import unittest

import samples
from beat_by_beat import Slow
from stubcords.burning import burning, causes, height_at, is_burning, out_at
from stubcords.errors import NoBeat, NoCandle, NoHouse, NoLights


class Burning(unittest.TestCase):
    def burns(self, house, lights, tales, catches):
        self.assertEqual(repr(burning(house, lights)), repr((tales, catches)))


class Point20Lights(Burning):
    def test_nothing_burns_without_lights(self):
        self.burns(((5,), ()), (), ((),), ())
        self.burns(samples.HOUSE, (), ((), ()), (None,))

    def test_a_light_comes_to_the_top_in_its_beat(self):
        self.burns(((5,), ()), ((0, 0),), (((0, 5, None),),), ())
        self.burns(((5, 1), ()), ((0, 3), (1, 1000000)),
                   (((3, 5, None),), ((1000000, 1, None),)), ())

    def test_a_light_that_comes_to_a_flame_does_nothing(self):
        house = ((3, 6), ((0, 2, 1, 4, 1),))
        for beat in (3, 4, 5, 6, 7, 100):
            self.burns(house, ((0, 0), (1, beat)), (((0, 3, None),), ((2, 4, 0),)), (1,))


class Point20Embers(Burning):
    def house(self, to, long):
        """Candle 1 of 9 is lit by cord 0 in beat 4 at height 6, by cord 1 at to."""
        return ((3, 9), ((0, 1, 1, 6, 2), (0, 2, 1, to, long)))

    def told(self, to, long):
        """The settings of candle 1."""
        return burning(self.house(to, long), ((0, 0),))[0][1]

    def test_the_example_of_the_document(self):
        self.burns(samples.HOUSE, ((0, 0),), (((0, 3, None),), ((5, 1, 0),)), (1,))

    def test_a_whole_candle_is_lit_at_the_height_of_the_ember(self):
        self.burns(((5, 4), ((0, 2, 1, 3, 10),)), ((0, 0),),
                   (((0, 5, None),), ((13, 3, 0),)), (3,))

    def test_a_flame_that_is_higher_is_set(self):
        self.assertEqual(self.told(4, 4), ((4, 6, 0), (5, 4, 1)))
        self.assertEqual(self.told(1, 5), ((4, 6, 0), (6, 1, 1)))

    def test_a_flame_that_is_as_low_stays(self):
        self.assertEqual(self.told(5, 4), ((4, 6, 0),))
        self.assertEqual(self.told(3, 6), ((4, 6, 0),))
        self.assertEqual(self.told(1, 8), ((4, 6, 0),))

    def test_a_flame_that_is_lower_stays(self):
        self.assertEqual(self.told(6, 4), ((4, 6, 0),))
        self.assertEqual(self.told(9, 4), ((4, 6, 0),))
        self.assertEqual(self.told(4, 6), ((4, 6, 0),))

    def test_a_flame_at_0_is_out_for_ever_also_in_that_beat(self):
        self.assertEqual(self.told(1, 7), ((4, 6, 0), (8, 1, 1)))
        for to in range(1, 10):
            for long in (9, 10, 11, 500):
                self.assertEqual(self.told(to, long), ((4, 6, 0),))

    def test_a_light_in_the_beat_in_which_the_flame_goes_out(self):
        house = ((3, 2), ((0, 2, 1, 1, 1),))
        for beat in (3, 4, 9):
            self.burns(house, ((0, 0), (1, beat)), (((0, 3, None),), ((2, 1, 0),)), (1,))

    def test_the_lowest_of_one_beat_counts(self):
        self.assertEqual(self.told(5, 3), ((4, 5, 1),))
        self.assertEqual(self.told(7, 3), ((4, 6, 0),))
        self.assertEqual(self.told(1, 3), ((4, 1, 1),))

    def test_the_least_cord_of_those_as_low(self):
        self.assertEqual(self.told(6, 3), ((4, 6, 0),))
        house = ((9, 9, 9), ((2, 2, 1, 2, 1), (0, 7, 1, 4, 3), (2, 7, 1, 4, 3), (0, 7, 1, 5, 3)))
        self.burns(house, ((0, 0), (2, 0)),
                   (((0, 9, None),), ((5, 4, 1),), ((0, 9, None),)), (7, 2, 2, 2))

    def test_the_lowest_of_one_beat_sets_a_flame(self):
        house = ((9, 9), ((0, 7, 1, 5, 1), (0, 7, 1, 3, 1), (0, 7, 1, 3, 1), (0, 7, 1, 4, 1)))
        self.burns(house, ((0, 0), (1, 1)),
                   (((0, 9, None),), ((1, 9, None), (3, 3, 1))), (2, 2, 2, 2))

    def test_a_light_and_a_lower_ember_in_one_beat(self):
        self.burns(((3, 2), ((0, 2, 1, 1, 1),)), ((0, 0), (1, 2)),
                   (((0, 3, None),), ((2, 1, 0),)), (1,))

    def test_a_light_and_an_ember_as_low_in_one_beat(self):
        self.burns(((3, 2), ((0, 2, 1, 2, 1),)), ((0, 0), (1, 2)),
                   (((0, 3, None),), ((2, 2, None),)), (1,))

    def test_an_ember_just_behind_a_light(self):
        self.burns(((3, 4), ((0, 2, 1, 2, 1),)), ((0, 0), (1, 1)),
                   (((0, 3, None),), ((1, 4, None), (2, 2, 0))), (1,))
        self.burns(((3, 4), ((0, 2, 1, 3, 1),)), ((0, 0), (1, 1)),
                   (((0, 3, None),), ((1, 4, None),)), (1,))

    def test_a_flame_is_set_again_and_again(self):
        house = ((9, 9), ((0, 8, 1, 7, 1), (0, 7, 1, 5, 1), (0, 6, 1, 2, 1), (0, 5, 1, 1, 1)))
        self.burns(house, ((0, 0), (1, 0)),
                   (((0, 9, None),), ((0, 9, None), (3, 5, 1), (4, 2, 2))), (1, 2, 3, 4))


class Point20Cords(Burning):
    def test_a_cord_to_its_own_candle(self):
        self.burns(((10,), ((0, 8, 0, 3, 2),)), ((0, 0),), (((0, 10, None), (4, 3, 0)),), (2,))
        self.burns(((10,), ((0, 8, 0, 5, 2),)), ((0, 0),), (((0, 10, None), (4, 5, 0)),), (2,))
        self.burns(((10,), ((0, 8, 0, 6, 2),)), ((0, 0),), (((0, 10, None),),), (2,))
        self.burns(((10,), ((0, 8, 0, 10, 2),)), ((0, 0),), (((0, 10, None),),), (2,))

    def test_a_cord_catches_at_once_where_its_candle_is_lit(self):
        house = ((3, 5, 5), ((0, 2, 1, 4, 1), (1, 4, 2, 5, 1)))
        self.burns(house, ((0, 0),),
                   (((0, 3, None),), ((2, 4, 0),), ((3, 5, 1),)), (1, 2))

    def test_a_cord_catches_at_once_where_its_candle_is_set(self):
        house = ((9, 9), ((0, 8, 1, 3, 1), (1, 3, 0, 2, 1)))
        self.burns(house, ((0, 0), (1, 0)),
                   (((0, 9, None), (3, 2, 1)), ((0, 9, None), (2, 3, 0))), (1, 2))

    def test_a_cord_never_catches_where_its_candle_is_lit_lower(self):
        house = ((3, 5, 5), ((0, 2, 1, 3, 1), (1, 4, 2, 5, 1)))
        self.burns(house, ((0, 0),), (((0, 3, None),), ((2, 3, 0),), ()), (1, None))

    def test_a_cord_never_catches_where_its_candle_is_set_lower_ahead(self):
        house = ((9, 9, 5), ((0, 8, 1, 3, 1), (1, 5, 2, 5, 1)))
        self.burns(house, ((0, 0), (1, 0)),
                   (((0, 9, None),), ((0, 9, None), (2, 3, 0)), ()), (1, None))

    def test_a_cord_never_catches_where_its_candle_is_set_lower_in_that_beat(self):
        house = ((9, 9, 5), ((0, 8, 1, 3, 3), (1, 5, 2, 5, 1)))
        self.burns(house, ((0, 0), (1, 0)),
                   (((0, 9, None),), ((0, 9, None), (4, 3, 0)), ()), (1, None))

    def test_a_cord_catches_in_the_beat_ahead_of_that(self):
        house = ((9, 9, 5), ((0, 8, 1, 3, 4), (1, 5, 2, 5, 1)))
        self.burns(house, ((0, 0), (1, 0)),
                   (((0, 9, None),), ((0, 9, None), (5, 3, 0)), ((5, 5, 1),)), (1, 4))

    def test_a_cord_catches_though_an_ember_as_low_comes_to_it(self):
        house = ((9, 9, 5), ((0, 8, 1, 5, 3), (1, 5, 2, 5, 1)))
        self.burns(house, ((0, 0), (1, 0)),
                   (((0, 9, None),), ((0, 9, None),), ((5, 5, 1),)), (1, 4))

    def test_an_ember_sets_the_flame_just_to_a_cord_that_it_would_have_passed(self):
        house = ((9, 9, 5), ((0, 8, 1, 5, 2), (1, 5, 2, 5, 1)))
        self.burns(house, ((0, 0), (1, 0)),
                   (((0, 9, None),), ((0, 9, None), (3, 5, 0)), ((4, 5, 1),)), (1, 3))

    def test_a_cord_catches_though_its_flame_is_set_lower_later(self):
        house = ((20, 20, 9), ((0, 18, 1, 15, 1), (1, 17, 2, 1, 7), (1, 14, 2, 9, 1),
                               (0, 12, 1, 2, 1)))
        self.burns(house, ((0, 0), (1, 0)),
                   (((0, 20, None),), ((0, 20, None), (3, 15, 0), (9, 2, 3)), ((5, 9, 2),)),
                   (2, None, 4, 8))

    def test_two_cords_that_light_one_another_stay_dark_unlit(self):
        self.burns(((2, 2), ((0, 1, 1, 2, 1), (1, 1, 0, 2, 1))), (), ((), ()), (None, None))

    def test_to_light_one_candle_more_may_leave_another_one_dark(self):
        house = ((9, 9, 5), ((0, 8, 1, 3, 1), (1, 5, 2, 5, 1)))
        self.assertNotEqual(burning(house, ((1, 0),))[0][2], ())
        self.assertEqual(burning(house, ((0, 0), (1, 0)))[0][2], ())

    def test_a_false_start_that_would_go_on_by_itself(self):
        # Cord 1 would light candle 2, were the flame of candle 1 not set lower.
        house = ((9, 9, 9, 9),
                 ((0, 8, 1, 1, 1), (1, 4, 2, 8, 1), (2, 8, 3, 8, 1), (3, 8, 2, 8, 1)))
        self.burns(house, ((0, 0), (1, 0)),
                   (((0, 9, None),), ((0, 9, None), (2, 1, 0)), (), ()), (1, None, None, None))


class Point20Great(Burning):
    def test_the_greatest_heights_and_beats(self):
        most = 1000000
        cords = tuple((candle, 1, candle + 1, most, most) for candle in range(6))
        tales = tuple(((most + candle * (2 * most - 1), most, candle - 1 if candle else None),)
                      for candle in range(7))
        catches = tuple(2 * most - 1 + candle * (2 * most - 1) for candle in range(6))
        self.burns(((most,) * 7, cords), ((0, most),), tales, catches)
        self.assertEqual(out_at(((most,) * 7, cords), ((0, most),), 6), 13999994)

    def test_it_is_not_told_from_beat_to_beat(self):
        for house, lights in samples.drawn(20, 2):
            self.assertEqual(samples.lines_run(burning, house, lights),
                             samples.lines_run(burning, *self.stretched(house, lights)))

    def stretched(self, house, lights):
        times = 100000
        tops = tuple(top * times for top in house[0])
        cords = tuple((one, at * times, other, to * times, long * times)
                      for one, at, other, to, long in house[1])
        return (tops, cords), tuple((candle, beat * times) for candle, beat in lights)


class AgainstTheSlowOne(unittest.TestCase):
    """Points 20 to 23 and 30, 31 over many houses, held against beat for beat."""

    def judge(self, house, lights):
        slow = Slow(house, lights)
        told = (slow.tales, slow.catches)
        self.assertEqual(repr(burning(house, lights)), repr(told), (house, lights))
        self.assertIs(is_burning(house, lights, told), True, (house, lights))
        return slow

    def test_drawn_houses(self):
        for house, lights in samples.drawn(150, 3):
            slow = self.judge(house, lights)
            for candle in range(len(house[0])):
                for beat in range(len(slow.heights) + 3):
                    row = slow.heights[beat] if beat < len(slow.heights) else [0] * 7
                    self.assertEqual(height_at(house, lights, candle, beat), row[candle])
                burns = [beat for beat, row in enumerate(slow.heights) if row[candle]]
                self.assertEqual(out_at(house, lights, candle), burns[-1] + 1 if burns else None)

    def test_more_drawn_houses(self):
        for house, lights in samples.drawn(3000, 4):
            self.judge(house, lights)

    def test_all_small_houses(self):
        for house, lights in samples.all_small():
            self.judge(house, lights)


class Point21(unittest.TestCase):
    def test_the_kinds_of_values(self):
        for house, lights in samples.SAMPLES:
            told = burning(house, lights)
            self.assertIs(type(told), tuple)
            tales, catches = told
            self.assertIs(type(tales), tuple)
            self.assertIs(type(catches), tuple)
            self.assertEqual(len(tales), len(house[0]))
            self.assertEqual(len(catches), len(house[1]))
            for tale in tales:
                self.assertIs(type(tale), tuple)
                for setting in tale:
                    self.assertIs(type(setting), tuple)
                    beat, height, by = setting
                    self.assertIs(type(beat), int)
                    self.assertIs(type(height), int)
                    self.assertTrue(by is None or type(by) is int)
                self.assertEqual(list(tale), sorted(tale, key=lambda setting: setting[0]))
            for beat in catches:
                self.assertTrue(beat is None or type(beat) is int)


class Point22(unittest.TestCase):
    def test_the_burning_is_it(self):
        for house, lights in samples.SAMPLES:
            self.assertIs(is_burning(house, lights, burning(house, lights)), True)

    def test_the_burning_with_a_part_otherwise_is_not(self):
        for house, lights in samples.SAMPLES:
            told = burning(house, lights)
            for thing in samples.variants(told):
                self.assertIs(is_burning(house, lights, thing), samples.alike(thing, told), thing)

    def test_the_burning_with_two_parts_otherwise_is_not(self):
        house, lights = samples.HOUSE, samples.LIGHTS
        told = burning(house, lights)
        for beat in range(-3, 12):
            for later in range(-3, 12):
                for height in range(-1, 4):
                    for by in (None, 0, 1, -1):
                        thing = ((((0, 3, None),), ((later, height, by),)), (beat,))
                        self.assertIs(is_burning(house, lights, thing), thing == told)

    def test_the_burnings_of_others_are_not(self):
        rows = list(samples.drawn(60, 5))
        for house, lights in rows:
            told = burning(house, lights)
            for candle in range(len(house[0])):
                other = burning(house, ((candle, 1),))
                self.assertIs(is_burning(house, lights, other), samples.alike(other, told))
            for another, its in rows:
                other = burning(another, its)
                self.assertIs(is_burning(house, lights, other), samples.alike(other, told))

    def test_embers_that_nothing_began_are_not(self):
        house = ((3, 3), ((0, 2, 1, 3, 1), (1, 2, 0, 3, 1)))
        for shift in range(-10, 10):
            for tales in (
                (((shift, 3, 1),), ((shift + 2, 3, 0),)),
                (((shift, 3, None),), ((shift + 2, 3, 0),)),
                (((shift, 3, 1),), ()),
            ):
                for catches in ((shift + 1, shift + 3), (shift + 1, None), (shift + 1, shift - 1)):
                    self.assertIs(is_burning(house, (), (tales, catches)), False)

    def test_truths_are_no_numbers(self):
        house, lights = ((2, 2), ((0, 1, 1, 1, 1), (0, 1, 1, 2, 1))), ((0, 0),)
        self.assertIs(is_burning(house, lights, ((((0, 2, None),), ((2, 1, 0),)), (1, 1))), True)
        for thing in (
            ((((False, 2, None),), ((2, 1, 0),)), (1, 1)),
            ((((0, 2, None),), ((2, True, 0),)), (1, 1)),
            ((((0, 2, None),), ((2, 1, False),)), (1, 1)),
            ((((0, 2, None),), ((2, 1, 0),)), (True, 1)),
            ((((0, 2, None),), ((2, 1, 0),)), (1, True)),
        ):
            self.assertIs(is_burning(house, lights, thing), False, thing)

    def test_of_anything(self):
        for house, lights in samples.SAMPLES:
            for thing in samples.ANYTHING:
                told = burning(house, lights)
                self.assertIs(is_burning(house, lights, thing), samples.alike(thing, told))

    def test_of_anything_in_each_place(self):
        house = samples.HOUSE
        for thing in samples.ANYTHING:
            for table in (
                (thing, (None,)), (((), ()), thing), ((thing, ()), (None,)),
                (((thing,), ()), (None,)), ((((thing, 3, None),), ()), (None,)),
                ((((0, thing, None),), ()), (None,)), ((((0, 3, thing),), ()), (None,)),
                ((((0, 3, None),), ((5, 1, 0),)), (thing,)),
            ):
                is_so = table == (((), ()), (None,)) or samples.alike(
                    table, ((((0, 3, None),), ((5, 1, 0),)), (1,)))
                lights = ((0, 0),) if table[0] != ((), ()) else ()
                self.assertIs(is_burning(house, lights, table), is_so, table)


class Point23Heights(unittest.TestCase):
    house = ((9, 9, 4), ((0, 8, 1, 3, 3),))
    lights = ((0, 2), (1, 2))

    def test_height_at(self):
        told = [height_at(self.house, self.lights, 1, beat) for beat in range(12)]
        self.assertEqual(told, [0, 0, 9, 8, 7, 6, 3, 2, 1, 0, 0, 0])
        told = [height_at(self.house, self.lights, 0, beat) for beat in range(13)]
        self.assertEqual(told, [0, 0, 9, 8, 7, 6, 5, 4, 3, 2, 1, 0, 0])
        self.assertEqual(height_at(self.house, self.lights, 2, 5), 0)

    def test_height_at_the_last_beat(self):
        told = height_at(self.house, self.lights, 0, 1000000000000)
        self.assertEqual(repr(told), "0")

    def test_height_at_is_told_from_ember_to_ember(self):
        house = ((26, 28, 10, 5, 3, 4, 16),
                 ((4, 2, 3, 3, 5), (2, 2, 5, 2, 5), (6, 1, 4, 3, 5), (3, 2, 5, 3, 5),
                  (6, 7, 4, 3, 5), (0, 12, 2, 2, 2), (4, 2, 3, 5, 4), (2, 2, 4, 3, 1),
                  (0, 2, 3, 4, 2), (3, 2, 2, 10, 4)))
        lights = ((0, 4), (3, 5), (4, 4), (5, 4), (6, 0))
        slow = Slow(house, lights).heights
        for candle in range(7):
            for beat in (0, 3, 4, 5, 6, 9, 20, 35, 300):
                told = slow[beat][candle] if beat < len(slow) else 0
                self.assertEqual(height_at(house, lights, candle, beat), told)
                # About 700; it was about 5,000 where each catch made all tales anew.
                self.assertLess(samples.lines_run(height_at, house, lights, candle, beat), 1200)

    def test_height_at_refuses_no_beat(self):
        for thing in samples.ANYTHING + (1000000000001,):
            if type(thing) is not int or not 0 <= thing <= 1000000000000:
                with self.assertRaises(NoBeat):
                    height_at(self.house, self.lights, 0, thing)

    def test_out_at(self):
        told = [out_at(self.house, self.lights, candle) for candle in range(3)]
        self.assertEqual(told, [11, 9, None])


class Point23Causes(unittest.TestCase):
    house = ((5, 5, 5, 5), ((2, 4, 3, 5, 1), (1, 4, 2, 5, 1), (0, 4, 1, 5, 1), (0, 4, 0, 1, 1)))

    def test_the_lights_own_candle(self):
        self.assertEqual(causes(self.house, ((0, 0),), 0), (0,))
        self.assertEqual(causes(self.house, ((0, 0), (2, 0)), 2), (2,))

    def test_the_cords_in_their_order(self):
        told = [causes(self.house, ((0, 0),), candle) for candle in range(4)]
        self.assertEqual(told, [(0,), (0, 2), (0, 2, 1), (0, 2, 1, 0)])

    def test_none_where_never_lit(self):
        self.assertIs(causes(self.house, ((1, 0),), 0), None)
        self.assertIs(causes(self.house, (), 3), None)

    def test_the_first_setting_counts(self):
        house = ((9, 9), ((0, 8, 1, 2, 1), (0, 7, 1, 1, 1)))
        self.assertEqual(causes(house, ((0, 0), (1, 0)), 1), (1,))
        self.assertEqual(causes(house, ((0, 0),), 1), (0, 0))
        self.assertEqual(causes(house, ((0, 0), (1, 2)), 1), (0, 0))
        self.assertEqual(causes(house, ((0, 0), (1, 1)), 1), (1,))

    def test_a_light_among_those_as_low(self):
        house = ((3, 2), ((0, 2, 1, 2, 1),))
        self.assertEqual(causes(house, ((0, 0), (1, 2)), 1), (1,))
        self.assertEqual(causes(house, ((0, 0), (1, 3)), 1), (0, 0))

    def test_by_these_cords_and_this_light_alone_it_is_lit_at_the_same_height(self):
        for house, lights in samples.drawn(600, 6):
            tales = burning(house, lights)[0]
            for candle, tale in enumerate(tales):
                told = causes(house, lights, candle)
                self.assertEqual(told is None, not tale)
                if tale:
                    cords = tuple(house[1][number] for number in sorted(told[1:]))
                    alone = tuple(light for light in lights if light[0] == told[0])
                    again = burning((house[0], cords), alone)[0][candle]
                    self.assertEqual(again[0][1], tale[0][1])

    def test_each_cord_ends_where_the_next_one_hangs(self):
        for house, lights in samples.drawn(300, 7):
            for candle in range(len(house[0])):
                told = causes(house, lights, candle)
                if told is not None:
                    self.assertIs(type(told), tuple)
                    here = told[0]
                    self.assertIn(here, [lit for lit, beat in lights])
                    for number in told[1:]:
                        self.assertEqual(house[1][number][0], here)
                        here = house[1][number][2]
                    self.assertEqual(here, candle)


class Refusals(unittest.TestCase):
    """Point 4: each error of its own class, the first that is due."""

    def test_no_house(self):
        for thing in samples.ANYTHING:
            if samples.alike(thing, ((3,), ())):
                continue
            for ask in (lambda: burning(thing, ()), lambda: burning(thing, thing),
                        lambda: is_burning(thing, (), ((), ())),
                        lambda: is_burning(thing, None, None),
                        lambda: height_at(thing, (), 0, 0),
                        lambda: height_at(thing, None, None, None),
                        lambda: out_at(thing, (), 0), lambda: out_at(thing, None, None),
                        lambda: causes(thing, (), 0), lambda: causes(thing, None, None)):
                with self.assertRaises(NoHouse):
                    ask()

    def test_no_lights(self):
        house = samples.HOUSE
        for thing in samples.ANYTHING + (((2, 0),), ((0, -1),), ((0, 0), (0, 1))):
            if thing in ((), ((0, 0),)):
                continue
            for ask in (lambda: burning(house, thing), lambda: is_burning(house, thing, thing),
                        lambda: height_at(house, thing, 0, 0),
                        lambda: height_at(house, thing, None, None),
                        lambda: out_at(house, thing, 0), lambda: out_at(house, thing, None),
                        lambda: causes(house, thing, 0), lambda: causes(house, thing, None)):
                with self.assertRaises(NoLights):
                    ask()

    def test_no_candle(self):
        house, lights = samples.HOUSE, samples.LIGHTS
        for thing in samples.ANYTHING:
            if type(thing) is int and thing in (0, 1):
                continue
            for ask in (lambda: height_at(house, lights, thing, 0),
                        lambda: height_at(house, lights, thing, None),
                        lambda: height_at(house, lights, thing, -1),
                        lambda: out_at(house, lights, thing),
                        lambda: causes(house, lights, thing)):
                with self.assertRaises(NoCandle):
                    ask()


if __name__ == "__main__":
    unittest.main()
