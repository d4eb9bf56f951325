"""Points 60 and 61: what is left by the lots that were lit in beat 0."""

import itertools
import unittest

import samples
from beat_by_beat import Slow
from stubcords.errors import NoCandle, NoHouse, UnlikeMany
from stubcords.left import burning_down, lighting_all, lots_for, parting
from stubcords.pieces import pieces

# Candle 0 lights candle 1 at its top, so lit with it or without it is left alike.
ALIKE = ((3, 2, 4), ((0, 2, 1, 2, 4), (1, 1, 2, 3, 1)))
HELD = ((9, 9, 5), ((0, 8, 1, 3, 1), (1, 5, 2, 5, 1)))
# As many candles and cords as may be, no cord ending at a top.
LARGE = ((24, 14, 4, 6, 4, 24, 28), (
    (3, 3, 5, 16, 2), (6, 2, 5, 1, 3), (0, 4, 2, 2, 4), (2, 1, 2, 1, 2), (6, 8, 5, 23, 2),
    (1, 6, 5, 11, 4), (2, 3, 0, 14, 3), (3, 5, 6, 12, 1), (0, 4, 6, 3, 1), (0, 18, 2, 3, 4)))


def at_once(lot):
    return tuple((candle, 0) for candle in lot)


def left_slowly(house):
    """The pieces by each lot, fewest first, told from beat to beat."""
    return {lot: Slow(house, at_once(lot)).pieces for lot in samples.fewest_first(len(house[0]))}


class Point60LotsFor(unittest.TestCase):
    def lots(self, house, thing, told):
        self.assertEqual(repr(lots_for(house, thing)), repr(told))

    def test_nothing_was_lit(self):
        self.lots(samples.HOUSE, (((1, 3, "whole"),), ((1, 2, "whole"),)), ((),))
        self.lots(((1,), ()), (((1, 1, "whole"),),), ((),))

    def test_pieces_of_one_lot(self):
        self.lots(samples.HOUSE, (((1, 3, "burnt"),), ((1, 1, "burnt"), (2, 2, "fallen"))), ((0,),))
        self.lots(samples.HOUSE, (((1, 3, "burnt"),), ((1, 2, "burnt"),)), ((0, 1),))
        self.lots(samples.HOUSE, (((1, 3, "whole"),), ((1, 2, "burnt"),)), ((1,),))
        self.lots(((1,), ()), (((1, 1, "burnt"),),), ((0,),))

    def test_pieces_of_no_lot(self):
        self.lots(samples.HOUSE, (((1, 3, "burnt"),), ((1, 2, "whole"),)), ())
        self.lots(samples.HOUSE, (((1, 3, "fallen"),), ((1, 2, "whole"),)), ())
        self.lots(samples.HOUSE, (((1, 4, "whole"),), ((1, 2, "whole"),)), ())
        self.lots(samples.HOUSE, pieces(ALIKE, ()), ())

    def test_pieces_of_several_lots_as_python_sorts_them(self):
        burnt = (((1, 3, "burnt"),), ((1, 2, "burnt"),), ((1, 3, "burnt"), (4, 4, "fallen")))
        self.lots(ALIKE, burnt, ((0,), (0, 1)))
        house = ((3, 2, 2), ((0, 2, 1, 2, 1), (0, 2, 2, 2, 1), (1, 1, 0, 3, 1), (2, 1, 0, 3, 1)))
        every = tuple(((1, top, "burnt"),) for top in house[0])
        self.lots(house, every, ((0,), (0, 1), (0, 1, 2), (0, 2), (1,), (1, 2), (2,)))

    def test_of_seven_candles(self):
        house = ((2,) * 7, tuple((candle, 1, (candle + 1) % 7, 2, 1) for candle in range(7)))
        every = tuple(((1, 2, "burnt"),) for _ in range(7))
        self.lots(house, every, tuple(samples.all_rising(7)[1:]))
        self.lots((house[0], ()), every, ((0, 1, 2, 3, 4, 5, 6),))

    def test_with_a_part_otherwise(self):
        for house in (samples.HOUSE, ALIKE, ((1, 1), ()), ((4,), ((0, 3, 0, 1, 1),))):
            known = left_slowly(house)
            for right in known.values():
                for thing in samples.variants(right):
                    told = sorted(lot for lot in known if samples.alike(known[lot], thing))
                    self.assertEqual(repr(lots_for(house, thing)), repr(tuple(told)), thing)

    def test_a_truth_is_no_number(self):
        self.lots(((1,), ()), (((True, 1, "burnt"),),), ())
        self.lots(((1,), ()), (((1, True, "burnt"),),), ())
        self.lots(((1,), ()), (((1, 1, True),),), ())

    def test_lists_in_place_of_tuples(self):
        for thing in ([[[1, 1, "burnt"]]], [((1, 1, "burnt"),)], ([(1, 1, "burnt")],),
                      ([1, 1, "burnt"],), (([1, 1, "burnt"],),)):
            self.lots(((1,), ()), thing, ())

    def test_of_anything(self):
        for house in (samples.HOUSE, ALIKE, ((1,), ())):
            for thing in samples.ANYTHING + (house, lots_for(house, pieces(house, ()))):
                self.lots(house, thing, ())
                self.lots(house, pieces(house, ())[:-1] + (thing,), ())
                self.lots(house, pieces(house, ())[:-1] + ((thing,),), ())

    def test_against_all_lots(self):
        many = set()
        for house, lights in samples.drawn(120, 61, candles=5):
            known = left_slowly(house)
            for right in known.values():
                told = lots_for(house, right)
                self.assertEqual(told, tuple(sorted(lot for lot in known if known[lot] == right)))
                many.add(len(told))
        self.assertTrue({1, 2, 4} <= many, many)

    def test_against_all_lots_of_top_houses(self):
        many = set()
        for house, lights in samples.drawn(60, 65, candles=5):
            known = left_slowly(samples.topped(house))
            for right in known.values():
                told = tuple(sorted(lot for lot in known if known[lot] == right))
                self.lots(samples.topped(house), right, told)
                many.add(len(told))
        self.assertTrue({1, 2, 4, 8} <= many, many)

    def test_rows_of_several_lots_side_by_side(self):
        for house, lights in list(samples.drawn(40, 66, candles=3)) + [(HELD, ())]:
            for drawn in (house, samples.topped(house)):
                known = left_slowly(drawn)
                columns = [sorted({left[candle] for left in known.values()}) for candle in range(len(house[0]))]
                for thing in itertools.product(*columns):
                    self.lots(drawn, thing, tuple(sorted(lot for lot in known if known[lot] == thing)))

    def test_pieces_of_another_house(self):
        rows = list(samples.drawn(60, 67, candles=3))
        for (house, _), (other, lights) in zip(rows, rows[1:] + rows[:1]):
            known = left_slowly(house)
            for thing in left_slowly(other).values():
                self.lots(house, thing, tuple(sorted(lot for lot in known if known[lot] == thing)))

    def test_not_all_lots_are_burnt(self):
        # Some 100,000 lines and more where each of the 128 lots was burnt.
        for thing in ((), None, pieces(samples.HOUSE, ())):
            self.assertLess(samples.lines_run(lots_for, LARGE, thing), 500)
        known = {lot: pieces(LARGE, at_once(lot)) for lot in samples.all_rising(7)}
        for lot, thing in known.items():
            self.assertLess(samples.lines_run(lots_for, LARGE, thing), 3000)
            self.lots(LARGE, thing, tuple(sorted(row for row in known if known[row] == thing)))


class Point60Parting(unittest.TestCase):
    def test_none_where_all_is_alike(self):
        for house, lights in samples.SAMPLES:
            self.assertIs(parting(house, house), None)
        bare = ((3, 2), ())
        # Cords of a candle to itself whose ember comes to a flame that is lower, or out.
        for cords in (((0, 2, 0, 3, 1),), ((1, 1, 1, 2, 9),), ((0, 2, 0, 1, 3),)):
            self.assertIs(parting(bare, ((3, 2), cords)), None)
            self.assertIs(parting(((3, 2), cords), bare), None)

    def test_none_of_several_orders_of_cords(self):
        house = samples.SAMPLES[7][0]
        self.assertIs(parting(house, (house[0], house[1][::-1])), None)

    def test_none_where_a_cord_hangs_twice(self):
        for house, lights in samples.drawn(40, 68, candles=4, most=5):
            self.assertIs(parting(house, (house[0], house[1] + house[1])), None)
            self.assertIs(parting((house[0], house[1][::-1] + house[1][:1]), house), None)

    def test_the_same_cords_are_not_burnt(self):
        # Some 200,000 lines where each of the 128 lots was burnt twice.
        for cords in (LARGE[1], LARGE[1][::-1], LARGE[1][5:] + LARGE[1][:5]):
            self.assertIs(parting(LARGE, (LARGE[0], cords)), None)
            self.assertLess(samples.lines_run(parting, LARGE, (LARGE[0], cords)), 1000)

    def test_the_same_cords_and_other_tops(self):
        self.assertEqual(parting(LARGE, ((25,) + LARGE[0][1:], LARGE[1])), ())
        self.assertEqual(parting(((3, 3), ()), ((3, 4), ())), ())

    def test_the_lot_of_none_where_tops_are_unlike(self):
        self.assertEqual(repr(parting(((3, 2), ()), ((3, 3), ()))), "()")
        self.assertEqual(repr(parting(((3,), ()), ((2,), ()))), "()")
        self.assertEqual(repr(parting(samples.HOUSE, ((2, 3), ()))), "()")

    def test_one_candle(self):
        self.assertEqual(parting(samples.HOUSE, ((3, 2), ())), (0,))
        self.assertEqual(parting(((3, 2), ((1, 1, 0, 2, 1),)), ((3, 2), ())), (1,))
        self.assertEqual(parting(((5,), ((0, 4, 0, 1, 1),)), ((5,), ())), (0,))

    def test_several_candles(self):
        # Only where candle 1 is lit, too, does it matter when the ember comes.
        near, far = ((9, 9), ((0, 8, 1, 3, 1),)), ((9, 9), ((0, 8, 1, 3, 2),))
        self.assertEqual(parting(near, far), (0, 1))
        self.assertEqual(parting(((9,) + near[0], ((1, 8, 2, 3, 1),)),
                                 ((9,) + far[0], ((1, 8, 2, 3, 2),))), (1, 2))

    def test_fewer_candles_ahead_of_lesser_ones(self):
        one = ((9, 9, 4), ((0, 8, 1, 3, 1), (2, 3, 2, 1, 1)))
        other = ((9, 9, 4), ((0, 8, 1, 3, 2),))
        self.assertEqual(parting(one, other), (2,))

    def test_of_unlike_many(self):
        for one, other in ((((3,), ()), ((3, 2), ())), (samples.HOUSE, ((3,), ())),
                           (((1,) * 7, ()), ((1,) * 6, ()))):
            with self.assertRaises(UnlikeMany):
                parting(one, other)
            with self.assertRaises(UnlikeMany):
                parting(other, one)

    def test_against_all_lots(self):
        many = []
        rows = list(samples.drawn(500, 62, candles=3, most=2))
        for house, lights in rows:
            one = left_slowly(house)
            for other, _ in rows[:150]:
                if len(other[0]) == len(house[0]) and other[0] != house[0]:
                    self.assertEqual(parting(house, other), ())
            for other in ((house[0], house[1][1:]), (house[0], house[1][:1]), samples.topped(house),
                          (house[0], tuple(cord[:4] + (cord[4] + 1,) for cord in house[1]))):
                known = left_slowly(other)
                told = [lot for lot in one if one[lot] != known[lot]]
                self.assertEqual(repr(parting(house, other)), repr(told[0] if told else None))
                many.append(len(told[0]) if told else None)
        self.assertTrue({None, 1, 2} <= set(many), set(many))


class Point61LightingAll(unittest.TestCase):
    def test_without_cords_all_candles(self):
        self.assertEqual(lighting_all(((5,), ())), (0,))
        self.assertEqual(lighting_all(((5,) * 7, ())), (0, 1, 2, 3, 4, 5, 6))

    def test_one_candle_that_lights_all(self):
        self.assertEqual(lighting_all(samples.HOUSE), (0,))
        self.assertEqual(lighting_all(((2, 3), ((1, 2, 0, 1, 1),))), (1,))

    def test_round_about_the_least(self):
        house = ((3,) * 3, ((0, 1, 1, 3, 1), (1, 1, 2, 3, 1), (2, 1, 0, 3, 1)))
        self.assertEqual(lighting_all(house), (0,))

    def test_lit_sometime_though_not_in_one_beat(self):
        self.assertEqual(lighting_all(((2, 2), ((0, 1, 1, 2, 1000000),))), (0,))

    def test_more_candles_may_light_fewer(self):
        # With 0 and 1 candle 2 is dark, with 1 alone candle 0 is: 2 must be lit by a light of its own.
        self.assertEqual(lighting_all(HELD), (0, 2))
        house = ((9, 9, 5, 2), ((0, 8, 1, 3, 1), (1, 5, 2, 5, 1)))
        self.assertEqual(lighting_all(house), (0, 2, 3))

    def test_against_all_lots(self):
        many = set()
        for house, lights in samples.drawn(300, 63, candles=5):
            told = next(lot for lot in samples.fewest_first(len(house[0]))
                        if all(Slow(house, at_once(lot)).tales))
            self.assertEqual(repr(lighting_all(house)), repr(told), house)
            many.add(len(told))
        self.assertTrue({1, 2, 3} <= many, many)


class Point61BurningDown(unittest.TestCase):
    def test_by_its_own_light(self):
        self.assertEqual(burning_down(((5,), ()), 0), (0,))
        self.assertEqual(burning_down(samples.HOUSE, 0), (0,))
        self.assertEqual(burning_down(samples.HOUSE, 1), (1,))

    def test_by_a_lesser_candle_whose_ember_comes_to_its_top(self):
        self.assertEqual(burning_down(ALIKE, 1), (0,))
        self.assertEqual(burning_down(ALIKE, 2), (2,))

    def test_none_where_its_own_cord_sets_it(self):
        house = ((10,), ((0, 8, 0, 3, 2),))
        self.assertIs(burning_down(house, 0), None)
        self.assertEqual(burning_down(((10,), ((0, 8, 0, 6, 2),)), 0), (0,))

    def test_none_where_it_feeds_another_that_sets_it(self):
        house = ((9, 9), ((0, 8, 1, 9, 1), (1, 8, 0, 2, 1)))
        self.assertIs(burning_down(house, 0), None)

    def test_with_a_candle_more_that_holds_an_ember_back(self):
        # Candle 2 lights candle 1, which sets it lower; candle 0 lights candle 1 below that cord.
        house = ((9, 9, 20), ((0, 8, 1, 3, 1), (1, 5, 2, 2, 1), (2, 19, 1, 9, 1)))
        self.assertEqual(burning_down(house, 2), (0, 2))

    def test_that_all_parts_burn(self):
        # Lit by the ember at the height 1 all that is left burns, but a part fell.
        self.assertEqual(burning_down(samples.HOUSE, 1), (1,))
        self.assertEqual(burning_down(((3, 1), ((0, 2, 1, 1, 1),)), 1), (0,))

    def test_against_all_lots(self):
        many = set()
        for house, lights in samples.drawn(300, 64, candles=5):
            known = left_slowly(house)
            for candle, top in enumerate(house[0]):
                rows = [lot for lot in known if known[lot][candle] == ((1, top, "burnt"),)]
                told = burning_down(house, candle)
                self.assertEqual(repr(told), repr(rows[0] if rows else None), (house, candle))
                many.add(told if told is None else len(told))
        self.assertTrue({None, 1} <= many, many)


class Refusals(unittest.TestCase):
    """Point 4: each error of its own class, the first that is due."""

    def test_no_house(self):
        for thing in samples.ANYTHING:
            if not samples.alike(thing, ((3,), ())):
                for ask in (lambda: lots_for(thing, thing), lambda: lighting_all(thing),
                            lambda: burning_down(thing, None), lambda: parting(thing, thing),
                            lambda: parting(samples.HOUSE, thing), lambda: parting(thing, samples.HOUSE)):
                    with self.assertRaises(NoHouse):
                        ask()

    def test_no_candle(self):
        for thing in (-1, 2, True, False, None, "0", (0,), [], {}, 9999999999999):
            with self.assertRaises(NoCandle):
                burning_down(samples.HOUSE, thing)


if __name__ == "__main__":
    unittest.main()
