"""Points 70 and 71: top houses, their first beats, the fewest cords and rows."""

import itertools
import unittest

import samples
from beat_by_beat import Slow
from stubcords.errors import HasLight, NoCandle, NoHouse, NoLights, NotTops
from stubcords.tops import cut_and_rows, first_beats, is_top_house, shows_beats, shows_cut

CHAIN = ((3, 4, 5), ((0, 2, 1, 4, 6), (1, 1, 2, 5, 2)))
# From 0 to 3 by 1 and by 2, and from 1 to 2 and back.
NET = ((3,) * 4, ((0, 2, 1, 3, 1), (0, 2, 2, 3, 1), (1, 2, 3, 3, 1), (2, 2, 3, 3, 1),
                  (1, 1, 2, 3, 1), (2, 1, 1, 3, 1)))
LIT = ((0, 0),)
# The shortest way from 0 to 6, by cords 0, 1, 2, stands across both rows of the other way.
ACROSS = ((2,) * 7, ((0, 1, 1, 2, 1), (1, 1, 2, 2, 1), (2, 1, 6, 2, 1), (1, 1, 3, 2, 1),
                     (3, 1, 4, 2, 1), (4, 1, 6, 2, 1), (0, 1, 5, 2, 1), (5, 1, 2, 2, 1)))
GREAT = ((1000000,) * 7, tuple((candle, 1, candle + 1, 1000000, 1000000) for candle in range(6)))


def tops_drawn(many, seed, candles=7, most=10):
    """Yield so many small top houses with lights."""
    for house, lights in samples.drawn(many, seed, candles, most):
        yield samples.topped(house), lights


def dark_candles(house, lights):
    return [candle for candle in range(len(house[0])) if candle not in dict(lights)]


def is_dark_without(house, lights, candle, cords):
    """Whether it is never lit without these cords, told from beat to beat."""
    left = tuple(cord for number, cord in enumerate(house[1]) if number not in cords)
    return Slow((house[0], left), lights).tales[candle] == ()


def is_row(house, lights, candle, row):
    """Whether this is a row of [71], straight from the words."""
    here = house[1][row[0]][0] if row else None
    if here not in dict(lights):
        return False
    for number in row:
        if house[1][number][0] != here:
            return False
        here = house[1][number][2]
    return here == candle


class Point70Houses(unittest.TestCase):
    def test_each_cord_ends_at_the_top(self):
        for house in (CHAIN, NET, ACROSS, GREAT, samples.TOP[0]):
            self.assertIs(is_top_house(house), True)
            for at, (one, height, other, to, long) in enumerate(house[1]):
                cord = (one, height, other, to - 1, long)
                self.assertIs(is_top_house((house[0], house[1][:at] + (cord,) + house[1][at + 1:])), False)

    def test_without_cords(self):
        self.assertIs(is_top_house(((1,), ())), True)
        self.assertIs(is_top_house(((5, 2, 1, 1, 1, 1, 1), ())), True)

    def test_the_top_of_the_candle_other_counts(self):
        self.assertIs(is_top_house(((5, 3), ((0, 2, 1, 3, 1),))), True)
        self.assertIs(is_top_house(((3, 5), ((0, 2, 1, 3, 1),))), False)
        self.assertIs(is_top_house(((5, 3), ((0, 2, 0, 5, 1),))), True)
        self.assertIs(is_top_house(((5, 3), ((0, 2, 0, 3, 1),))), False)

    def test_of_the_samples(self):
        self.assertEqual([is_top_house(house) for house, lights in samples.SAMPLES],
                         [False] * 3 + [True] * 2 + [False] * 5)


class Point70Beats(unittest.TestCase):
    def beats(self, house, lights, told):
        self.assertEqual(repr(first_beats(house, lights)), repr(told))
        self.assertIs(shows_beats(house, lights, told), True)

    def test_a_light_or_none(self):
        self.beats(((5,), ()), (), (None,))
        self.beats(((5,), ()), ((0, 3),), (3,))
        self.beats(((1, 1, 1), ()), ((0, 0), (2, 1000000)), (0, None, 1000000))

    def test_along_a_chain(self):
        self.beats(CHAIN, ((0, 10),), (10, 17, 22))
        self.beats(CHAIN, ((1, 10),), (None, 10, 15))
        self.beats(CHAIN, (), (None, None, None))

    def test_the_first_of_several(self):
        self.beats(CHAIN, ((0, 10), (1, 16)), (10, 16, 21))
        self.beats(CHAIN, ((0, 10), (1, 17)), (10, 17, 22))
        self.beats(CHAIN, ((0, 10), (1, 18)), (10, 17, 22))
        house = ((9, 9), ((0, 8, 1, 9, 5), (0, 6, 1, 9, 2), (0, 7, 1, 9, 9)))
        self.beats(house, LIT, (0, 5))

    def test_cords_to_their_own_candle_and_round_about(self):
        self.beats(((5, 5), ((0, 4, 0, 5, 1), (0, 3, 1, 5, 1), (1, 3, 0, 5, 1))), ((0, 4),), (4, 7))
        self.beats(((5, 5), ((0, 3, 1, 5, 1), (1, 3, 0, 5, 1))), (), (None, None))

    def test_the_greatest_beats(self):
        self.beats(GREAT, ((0, 1000000),),
                   tuple(1000000 + candle * 1999999 for candle in range(7)))

    def test_against_beat_for_beat(self):
        for house, lights in tops_drawn(1500, 70):
            tales = Slow(house, lights).tales
            self.assertTrue(all(len(tale) < 2 for tale in tales))
            self.beats(house, lights, tuple(tale[0][0] if tale else None for tale in tales))

    def test_no_other_beats_are_shown(self):
        for house, lights in tops_drawn(60, 71, candles=3, most=4):
            right = first_beats(house, lights)
            most = max([beat for beat in right if beat is not None], default=0)
            row = [None] + list(range(-2, most + 3))
            for thing in itertools.product(row, repeat=len(house[0])):
                self.assertIs(shows_beats(house, lights, thing), thing == right)

    def test_beats_that_hold_one_another_up_are_not_shown(self):
        house = ((5, 5), ((0, 3, 1, 5, 1), (1, 3, 0, 5, 1)))
        for shift in range(-8, 9):
            for thing in ((shift, shift + 3), (shift + 3, shift), (shift, shift), (None, shift)):
                self.assertIs(shows_beats(house, (), thing), False)

    def test_with_a_part_otherwise(self):
        for house, lights in list(tops_drawn(60, 72)) + [samples.TOP, (GREAT, ((0, 1000000),))]:
            right = first_beats(house, lights)
            for thing in samples.variants(right):
                self.assertIs(shows_beats(house, lights, thing), samples.alike(thing, right), thing)

    def test_a_truth_is_no_number(self):
        house = ((3, 3), ())
        self.assertIs(shows_beats(house, ((0, 0), (1, 1)), (0, 1)), True)
        for thing in ((False, 1), (0, True), (False, True), [0, 1], ((0,), 1), (0, "1")):
            self.assertIs(shows_beats(house, ((0, 0), (1, 1)), thing), False)
        self.assertIs(shows_beats(house, (), (None, False)), False)

    def test_of_anything(self):
        for house, lights in ((CHAIN, LIT), (((5,), ()), ()), (((5,), ()), LIT), (NET, ())):
            right = first_beats(house, lights)
            for thing in samples.ANYTHING:
                self.assertIs(shows_beats(house, lights, thing), samples.alike(thing, right))
                for at in range(len(right)):
                    other = right[:at] + (thing,) + right[at + 1:]
                    self.assertIs(shows_beats(house, lights, other), samples.alike(other, right))


class Point71Told(unittest.TestCase):
    def judge(self, house, lights, candle):
        """Hold what is told against a search over all cuts; tell how many cords."""
        told = cut_and_rows(house, lights, candle)
        self.assertIs(type(told), tuple)
        cords, rows = told
        right = next(cut for cut in samples.fewest_first(len(house[1]))
                     if is_dark_without(house, lights, candle, cut))
        self.assertEqual(repr(cords), repr(right), (house, lights, candle))
        self.assertIs(type(rows), tuple)
        self.assertEqual(len(rows), len(cords))
        numbers = []
        for row in rows:
            self.assertIs(type(row), tuple)
            self.assertTrue(is_row(house, lights, candle, row), (house, lights, candle, row))
            self.assertTrue(all(type(number) is int for number in row))
            numbers += row
        self.assertEqual(len(numbers), len(set(numbers)))
        self.assertIs(shows_cut(house, lights, candle, told), True)
        return len(cords)

    def test_a_candle_that_is_never_lit(self):
        for house, lights, candle in ((((5,), ()), (), 0), (CHAIN, ((1, 0),), 0), (NET, (), 3),
                                      (((5, 5), ((1, 4, 1, 5, 1),)), LIT, 1)):
            self.assertEqual(repr(cut_and_rows(house, lights, candle)), "((), ())")

    def test_along_a_chain(self):
        self.assertEqual(cut_and_rows(CHAIN, LIT, 1), ((0,), ((0,),)))
        self.assertEqual(cut_and_rows(CHAIN, LIT, 2), ((0,), ((0, 1),)))
        self.assertEqual(cut_and_rows(CHAIN, ((0, 5), (1, 9)), 2), ((1,), ((1,),)))

    def test_cords_side_by_side(self):
        house = ((5, 5), ((0, 4, 1, 5, 1),) * 10)
        cords, rows = cut_and_rows(house, LIT, 1)
        self.assertEqual(cords, tuple(range(10)))
        self.assertEqual(sorted(rows), [(number,) for number in range(10)])
        house = ((5,) * 3, ((0, 4, 1, 5, 1),) * 3 + ((1, 4, 2, 5, 1),) * 2)
        self.assertEqual(cut_and_rows(house, LIT, 2)[0], (3, 4))
        self.assertEqual(self.judge(house, LIT, 2), 2)

    def test_the_net(self):
        self.assertEqual(cut_and_rows(NET, LIT, 3)[0], (0, 1))
        for candle in (1, 2, 3):
            self.assertEqual(self.judge(NET, LIT, candle), 2)

    def test_rows_that_stand_across_the_shortest_way(self):
        for order in itertools.islice(itertools.permutations(range(8)), 0, None, 337):
            house = ACROSS[0], tuple(ACROSS[1][number] for number in order)
            self.assertEqual(self.judge(house, LIT, 6), 2)

    def test_of_several_lights(self):
        house = ((5,) * 4, ((0, 4, 3, 5, 1), (1, 4, 3, 5, 1), (2, 4, 3, 5, 1), (0, 4, 1, 5, 1)))
        self.assertEqual(cut_and_rows(house, ((0, 0), (1, 0)), 3)[0], (0, 1))
        self.assertEqual(self.judge(house, ((0, 0), (1, 7), (2, 9)), 3), 3)

    def test_the_greatest(self):
        self.assertEqual(cut_and_rows(GREAT, ((0, 1000000),), 6), ((0,), ((0, 1, 2, 3, 4, 5),)))

    def test_against_all_cuts(self):
        many = set()
        for house, lights in tops_drawn(400, 73, candles=5, most=6):
            for candle in dark_candles(house, lights):
                many.add(self.judge(house, lights, candle))
        for house, lights in list(tops_drawn(40, 74, candles=4))[30:] + [samples.TOP]:
            for candle in dark_candles(house, lights):
                many.add(self.judge(house, lights, candle))
        self.assertTrue({0, 1, 2, 3} <= many, many)


class Point71Shown(unittest.TestCase):
    def shown(self, house, lights, candle, *things):
        for thing in things:
            self.assertIs(shows_cut(house, lights, candle, thing), True, thing)

    def not_shown(self, house, lights, candle, *things):
        for thing in things:
            self.assertIs(shows_cut(house, lights, candle, thing), False, thing)

    def test_whichever_cords_and_rows(self):
        rows = (((0, 2), (1, 3)), ((1, 3), (0, 2)), ((0, 4, 3), (1, 5, 2)), ((1, 5, 2), (0, 4, 3)))
        for cords in samples.all_rising(6):
            for row in rows:
                self.assertIs(shows_cut(NET, LIT, 3, (cords, row)), cords in ((0, 1), (2, 3)))

    def test_rows_that_are_none(self):
        self.not_shown(NET, LIT, 3, *(((0, 1), rows) for rows in (
            (), ((0, 2),), ((0, 2), (1, 3), (1, 3)), ((0, 2), (0, 4, 3)), ((0, 2), (0, 2)),
            ((0, 2), (3,)), ((0, 2), (1,)), ((0, 2), ()), ((0, 2), (3, 1)), ((0, 3), (1, 2)),
            ((0, 2), (1, 3, 1)), ((0, 2), (1, 6)), ((0, 2), (1, -3)), ((0, 2), (True, 3)),
            ((False, 2), (1, 3)), [(0, 2), (1, 3)], ((0, 2), [1, 3]), ((0, 2), 1), ((0, 2), None),
            ((0, 2), (1, None)), ((0, 2), ((1, 3),)), (0, 2), None, {}, "")))

    def test_cords_that_are_none(self):
        rows = ((0, 2), (1, 3))
        self.shown(NET, LIT, 3, ((0, 1), rows))
        self.not_shown(NET, LIT, 3, *((cords, rows) for cords in (
            (1, 0), (0, 0), (0, 1, 1), (0, 6), (-1, 0), (0, True), (False, 1), [0, 1], (0,), (),
            (0, 1, 2), (0, None), ("0", "1"), ((0,), (1,)), None, 0, {}, {0: 1})))
        self.not_shown(NET, LIT, 3, (0, 1), ((0, 1),), ((0, 1), rows, ()), [(0, 1), rows], None,
                       (rows, (0, 1)), rows, (), {0: (0, 1), 1: rows})

    def test_as_many_rows_as_cords(self):
        self.not_shown(NET, LIT, 3, ((0, 1, 2), ((0, 2), (1, 3))), ((0, 1), ((0, 2),)),
                       ((0, 1, 2, 3, 4, 5), ((0, 2), (1, 3))), ((0,), ((0, 2),)), ((), ()))

    def test_of_a_candle_that_is_never_lit(self):
        house = ((5, 5), ((1, 4, 1, 5, 1),))
        self.shown(house, LIT, 1, ((), ()))
        self.not_shown(house, LIT, 1, ((0,), ()), ((0,), ((0,),)), ((), ((),)), ((), ((0,),)),
                       ([], ()), ((), []), (), None, ((),), ((), None))

    def test_a_row_that_comes_to_one_candle_twice(self):
        house = ((5,) * 4, ((0, 4, 1, 5, 1), (1, 4, 2, 5, 1), (2, 4, 1, 5, 1), (1, 3, 3, 5, 1)))
        self.shown(house, LIT, 3, ((0,), ((0, 3),)), ((0,), ((0, 1, 2, 3),)), ((3,), ((0, 1, 2, 3),)))
        self.not_shown(house, LIT, 3, ((0,), ((0, 1, 2, 1, 2, 3),)), ((1,), ((0, 3),)))

    def test_a_row_by_a_cord_to_its_own_candle(self):
        house = ((5, 5), ((0, 4, 0, 5, 1), (0, 3, 1, 5, 1), (1, 4, 1, 5, 1)))
        self.shown(house, LIT, 1, ((1,), ((1,),)), ((1,), ((0, 1),)), ((1,), ((0, 1, 2),)),
                   ((1,), ((1, 2),)))
        self.not_shown(house, LIT, 1, ((1,), ((0, 0, 1),)), ((0,), ((0, 1),)), ((1,), ((2,),)))

    def test_a_row_that_comes_to_the_end_or_to_a_light_between(self):
        house = ((5, 5, 5), ((0, 4, 2, 5, 1), (2, 4, 1, 5, 1), (1, 4, 2, 5, 1), (1, 4, 0, 5, 1)))
        self.shown(house, LIT, 2, ((0,), ((0, 1, 2),)), ((0,), ((0,),)))
        lights = ((0, 0), (1, 0))
        self.shown(house, lights, 2, ((0, 2), ((0,), (2,))))
        self.shown(house, lights, 2, ((0, 2), ((2,), (3, 0))))
        self.not_shown(house, lights, 2, ((0, 2), ((0, 1, 2), (2,))), ((0, 2), ((1, 2), (0,))))

    def test_of_anything(self):
        for house, lights, candle in ((NET, LIT, 3), (CHAIN, LIT, 2), (((5,), ()), (), 0)):
            right = cut_and_rows(house, lights, candle)
            for thing in samples.ANYTHING:
                is_so = right == ((), ()) and samples.alike(thing, right)
                self.assertIs(shows_cut(house, lights, candle, thing), is_so)
                for other in ((thing, right[1]), (right[0], (thing,) + right[1][1:]),
                              (right[0], ((thing,) + right[1][0][1:],) if right[1] else (thing,))):
                    self.assertIs(shows_cut(house, lights, candle, other), samples.alike(other, right))

    def test_with_a_part_otherwise(self):
        for house, lights in list(tops_drawn(40, 75, candles=4, most=6)) + [(NET, LIT), samples.TOP]:
            for candle in dark_candles(house, lights):
                right = cut_and_rows(house, lights, candle)
                for thing in samples.variants(right):
                    self.assertIs(shows_cut(house, lights, candle, thing),
                                  self.is_so(house, lights, candle, thing), thing)

    def test_all_cords_with_all_rows(self):
        for house, lights in tops_drawn(60, 76, candles=3, most=4):
            for candle in dark_candles(house, lights):
                pool = [row for size in range(4)
                        for row in itertools.permutations(range(len(house[1])), size)]
                for cords in samples.all_rising(len(house[1]))[:12]:
                    for rows in itertools.product(pool[:30], repeat=min(len(cords), 2)):
                        self.assertIs(shows_cut(house, lights, candle, (cords, rows)),
                                      self.is_so(house, lights, candle, (cords, rows)))

    def is_so(self, house, lights, candle, thing):
        """Whether it is such, straight from the words."""
        if type(thing) is not tuple or len(thing) != 2:
            return False
        cords, rows = thing
        if type(cords) is not tuple or type(rows) is not tuple or len(cords) != len(rows):
            return False
        if any(type(row) is not tuple for row in rows):
            return False
        numbers = [number for row in rows for number in row]
        if any(type(number) is not int or not 0 <= number < len(house[1])
               for number in list(cords) + numbers):
            return False
        return (list(cords) == sorted(set(cords)) and len(set(numbers)) == len(numbers)
                and all(is_row(house, lights, candle, row) for row in rows)
                and is_dark_without(house, lights, candle, cords))


class Refusals(unittest.TestCase):
    """Point 4: each error of its own class, the first that is due."""

    def ask_all(self, refused, house, lights, candle, thing):
        for ask in (lambda: first_beats(house, lights), lambda: shows_beats(house, lights, thing),
                    lambda: cut_and_rows(house, lights, candle),
                    lambda: shows_cut(house, lights, candle, thing)):
            with self.assertRaises(refused):
                ask()

    def test_no_house_ahead_of_all(self):
        for house in (((), ()), None, [CHAIN[0], CHAIN[1]], (CHAIN[0], CHAIN[1] * 6)):
            self.ask_all(NoHouse, house, ((0, 0), (0, 0)), None, None)
            with self.assertRaises(NoHouse):
                is_top_house(house)

    def test_not_tops_ahead_of_no_lights(self):
        for lights in (LIT, None, ((0, 0), (0, 0)), [(0, 0)], ((7, 0),)):
            for candle in (0, 1, -1, None, True):
                self.ask_all(NotTops, samples.HOUSE, lights, candle, None)

    def test_no_lights(self):
        for lights in (None, ((0, 0), (0, 0)), [(0, 0)], ((7, 0),), ((0, True),)):
            for candle in (0, 1, -1, None, True):
                self.ask_all(NoLights, CHAIN, lights, candle, None)

    def test_no_candle_then_has_light(self):
        for candle, refused in ((3, NoCandle), (-1, NoCandle), (True, NoCandle), (None, NoCandle),
                                ((0,), NoCandle), ("0", NoCandle), (False, NoCandle),
                                (0, HasLight), (2, HasLight)):
            for thing in (None, ((), ()), ((0,), ((0,),))):
                with self.assertRaises(refused):
                    cut_and_rows(CHAIN, ((0, 5), (2, 9)), candle)
                with self.assertRaises(refused):
                    shows_cut(CHAIN, ((0, 5), (2, 9)), candle, thing)


if __name__ == "__main__":
    unittest.main()
