"""Points 80 and 81: later, stretched, side by side, in another order."""

import itertools
import unittest

import samples
from beat_by_beat import Slow
from stubcords.errors import (
    NoBeat, NoHouse, NoLights, NoOrder, NoTimes, TooMany, TooMuch,
)
from stubcords.houses import are_lights, is_house
from stubcords.other import beside, in_order, later, stretched

MOST = 1000000
NOT_WHOLE = (None, True, False, "", "1", "00", (), (1,), [], [1], {}, {1: 1})
CORD = (0, 1, 0, 2, 1)


class Other(unittest.TestCase):
    def just(self, told, right):
        self.assertEqual(repr(told), repr(right))

    def refused(self, error, fields, function, *values):
        with self.assertRaises(error) as caught:
            function(*values)
        self.assertIs(type(caught.exception), error)
        self.just(vars(caught.exception), fields)

    def too_much(self, much, function, *values):
        self.refused(TooMuch, {"much": much, "most": MOST}, function, *values)

    def too_many(self, many, most, *values):
        self.refused(TooMany, {"many": many, "most": most}, beside, *values)


class Point80Later(Other):
    house = ((3, 2, 5), ())

    def test_each_light_is_so_much_later(self):
        self.just(later(self.house, ((0, 0),), 7), ((0, 7),))
        self.just(later(self.house, ((0, 9), (1, 0), (2, 4)), 11), ((0, 20), (1, 11), (2, 15)))

    def test_no_beats_later(self):
        for house, lights in samples.SAMPLES:
            self.just(later(house, lights, 0), lights)

    def test_no_lights(self):
        for by in (0, 1, 999999, MOST):
            self.just(later(self.house, (), by), ())

    def test_just_so_many_beats_as_is_let(self):
        self.just(later(self.house, ((1, 0),), MOST), ((1, MOST),))
        self.just(later(self.house, ((0, 3), (1, 7)), MOST - 7), ((0, MOST - 4), (1, MOST)))
        self.just(later(self.house, ((0, MOST),), 0), ((0, MOST),))

    def test_one_beat_more(self):
        self.too_much(MOST + 1, later, self.house, ((1, 1),), MOST)
        self.too_much(MOST + 1, later, self.house, ((0, 3), (1, 7)), MOST - 6)
        self.too_much(MOST + 1, later, self.house, ((0, MOST),), 1)

    def test_the_greatest_beat_is_told(self):
        self.too_much(2 * MOST, later, self.house, ((0, MOST), (1, 0), (2, 5)), MOST)
        self.too_much(MOST + 8, later, self.house, ((0, 5), (1, 9), (2, 2)), MOST - 1)

    def test_a_sum_of_other_drawn_lights(self):
        for house, lights in samples.drawn(200, 80):
            told = later(house, lights, 12)
            self.just(told, tuple((candle, beat + 12) for candle, beat in lights))
            self.assertIs(are_lights(house, told), True)

    def test_no_beat_is_refused(self):
        for by in NOT_WHOLE + (-1, -MOST, MOST + 1, 9999999999999, -9999999999999):
            for lights in ((), ((0, 0),), ((0, MOST),)):
                self.refused(NoBeat, {}, later, self.house, lights, by)

    def test_no_lights_then_no_beat_then_too_much(self):
        for by in (None, -1, 0, MOST, MOST + 1):
            self.refused(NoHouse, {}, later, ((), ()), None, by)
            self.refused(NoLights, {}, later, self.house, None, by)
            self.refused(NoLights, {}, later, self.house, ((0, 0), (0, MOST)), by)


class Point80Stretched(Other):
    def test_tops_at_to_and_long(self):
        self.just(stretched(samples.HOUSE, 5), ((15, 10), ((0, 10, 1, 5, 20),)))
        self.just(stretched(((3, 7), ((1, 6, 0, 2, 1), (0, 1, 0, 3, 9))), 2),
                  ((6, 14), ((1, 12, 0, 4, 2), (0, 2, 0, 6, 18))))

    def test_once(self):
        for house, lights in samples.SAMPLES:
            self.just(stretched(house, 1), house)

    def test_without_cords(self):
        self.just(stretched(((1, 4, 2), ()), 250000), ((250000, MOST, 500000), ()))
        self.just(stretched(((1,), ()), MOST), ((MOST,), ()))

    def test_just_so_many_times_as_is_let_and_one_more(self):
        rows = (
            ((4, 3), ((0, 2, 1, 1, 2),), 250000, 4),
            ((3, 4), ((0, 2, 1, 1, 2),), 250000, 4),
            ((3, 3), ((0, 2, 1, 1, 8),), 125000, 8),
            ((3, 3), ((0, 2, 1, 1, 1), (0, 1, 1, 1, 8), (0, 2, 1, 1, 2)), 125000, 8),
            ((3, 999), (), 1001, 999),
            ((MOST,), (), 1, MOST),
            ((2,), ((0, 1, 0, 2, MOST),), 1, MOST),
        )
        for tops, cords, times, greatest in rows:
            told = stretched((tops, cords), times)
            self.assertIs(is_house(told), True)
            self.assertEqual(told[0], tuple(top * times for top in tops))
            self.too_much(greatest * (times + 1), stretched, (tops, cords), times + 1)

    def test_the_greatest_of_all_kinds(self):
        # The greatest at is one less than a top, the greatest to is a top.
        self.too_much(9 * MOST, stretched, ((9, 2), ((0, 8, 0, 9, 1),)), MOST)
        self.too_much(MOST * MOST, stretched, ((9, 2), ((0, 8, 0, 9, MOST),)), MOST)
        self.too_much(2 * MOST, stretched, ((1, 1, 2), ()), MOST)

    def test_drawn_houses(self):
        for house, lights in samples.drawn(200, 81):
            told = stretched(house, 7)
            self.just(told, (tuple(top * 7 for top in house[0]), tuple(
                (one, 7 * at, other, 7 * to, 7 * long) for one, at, other, to, long in house[1])))
            self.assertIs(is_house(told), True)

    def test_no_times_is_refused(self):
        for times in NOT_WHOLE + (0, -1, MOST + 1, 9999999999999):
            for house in (samples.HOUSE, ((MOST,), ())):
                self.refused(NoTimes, {}, stretched, house, times)

    def test_no_house_ahead_of_no_times(self):
        for times in (None, 0, 1, MOST + 1):
            self.refused(NoHouse, {}, stretched, ((0,), ()), times)


class Point81Beside(Other):
    def test_candles_and_cords_numbered_behind_the_firsts(self):
        self.just(beside(samples.HOUSE, ((5,), ())), ((3, 2, 5), ((0, 2, 1, 1, 4),)))
        self.just(beside(((5,), ()), samples.HOUSE), ((5, 3, 2), ((1, 2, 2, 1, 4),)))
        self.just(beside(((4, 4), ((1, 3, 0, 2, 9), (0, 1, 0, 2, 8))), samples.HOUSE),
                  ((4, 4, 3, 2), ((1, 3, 0, 2, 9), (0, 1, 0, 2, 8), (2, 2, 3, 1, 4))))

    def test_just_seven_candles_and_ten_cords(self):
        for many, cords in itertools.product(range(1, 7), range(11)):
            one = ((9,) * many, (CORD,) * cords)
            other = ((8,) * (7 - many), (CORD,) * (10 - cords))
            told = beside(one, other)
            self.assertIs(is_house(told), True)
            self.assertEqual(told[0], (9,) * many + (8,) * (7 - many))
            self.assertEqual(told[1], (CORD,) * cords + ((many, 1, many, 2, 1),) * (10 - cords))

    def test_one_candle_more(self):
        for many in range(1, 8):
            self.too_many(8, 7, ((9,) * many, (CORD,) * 5), ((9,) * (8 - many), (CORD,) * 5))
        self.too_many(14, 7, ((9,) * 7, ()), ((9,) * 7, ()))

    def test_one_cord_more(self):
        for cords in range(1, 11):
            self.too_many(11, 10, ((9,) * 3, (CORD,) * cords), ((9,) * 4, (CORD,) * (11 - cords)))
        self.too_many(20, 10, ((9,), (CORD,) * 10), ((9,), (CORD,) * 10))

    def test_of_both_more_candles_first(self):
        self.too_many(8, 7, ((9,) * 4, (CORD,) * 6), ((9,) * 4, (CORD,) * 5))
        self.too_many(9, 7, ((9,) * 7, (CORD,) * 10), ((9,) * 2, (CORD,) * 10))

    def test_no_house_ahead_of_too_many(self):
        full = ((9,) * 7, (CORD,) * 10)
        for thing in samples.ANYTHING:
            if not samples.alike(thing, ((3,), ())):
                for one, other in ((thing, full), (full, thing), (thing, thing)):
                    self.refused(NoHouse, {}, beside, one, other)


class Point81InOrder(Other):
    house = ((3, 4, 5), ((0, 2, 1, 1, 4), (2, 4, 0, 3, 1), (1, 1, 1, 4, 2)))

    def test_the_first_is_candle_0_then(self):
        self.just(in_order(self.house, (2, 0, 1)),
                  ((5, 3, 4), ((1, 2, 2, 1, 4), (0, 4, 1, 3, 1), (2, 1, 2, 4, 2))))
        self.just(in_order(self.house, (1, 0, 2)),
                  ((4, 3, 5), ((1, 2, 0, 1, 4), (2, 4, 1, 3, 1), (0, 1, 0, 4, 2))))

    def test_as_it_is(self):
        for house, lights in samples.SAMPLES:
            self.just(in_order(house, tuple(range(len(house[0])))), house)

    def test_the_other_way_about(self):
        self.just(in_order(self.house, (2, 1, 0)),
                  ((5, 4, 3), ((2, 2, 1, 1, 4), (0, 4, 2, 3, 1), (1, 1, 1, 4, 2))))

    def test_one_candle(self):
        self.just(in_order(((5,), ((0, 4, 0, 1, 1),)), (0,)), ((5,), ((0, 4, 0, 1, 1),)))

    def test_all_orders(self):
        for house, lights in samples.drawn(30, 82, candles=4):
            for order in itertools.permutations(range(len(house[0]))):
                told = in_order(house, order)
                self.assertIs(is_house(told), True)
                self.assertEqual([told[0][place] for place in range(len(order))],
                                 [house[0][candle] for candle in order])
                back = [(order[one], at, order[other], to, long) for one, at, other, to, long in told[1]]
                self.assertEqual(tuple(back), house[1])

    def test_seven_candles_there_and_back(self):
        house = samples.SAMPLES[8][0]
        for order in itertools.islice(itertools.permutations(range(7)), 0, None, 97):
            back = tuple(order.index(candle) for candle in range(7))
            self.just(in_order(in_order(house, order), back), house)

    def test_no_order_is_refused(self):
        for order in ((), (0,), (0, 1), (0, 1, 1), (0, 0, 1, 2), (0, 1, 2, 2), (0, 1, 2, 3), (1, 2, 3),
                      (0, 1, -1), (-1, 0, 1, 2), [0, 1, 2], (0, True, 2), (False, 1, 2), (0, 1, None),
                      (0, 1, "2"), (0, (1,), 2), ((0, 1, 2),), {0: 0, 1: 1, 2: 2}, "012", None, 0,
                      ([], [], []), (0, 1, 9999999999999)):
            self.refused(NoOrder, {}, in_order, self.house, order)
        for order in samples.ANYTHING:
            self.refused(NoOrder, {}, in_order, self.house, order)

    def test_an_order_of_another_house(self):
        self.refused(NoOrder, {}, in_order, samples.HOUSE, (2, 0, 1))
        self.refused(NoOrder, {}, in_order, ((1,) * 7, ()), (0, 1, 2, 3, 4, 5))
        self.just(in_order(((1,) * 7, ()), (6, 0, 5, 1, 4, 2, 3)), ((1,) * 7, ()))

    def test_orders_with_a_part_otherwise(self):
        for order in itertools.permutations(range(3)):
            for thing in samples.variants(order):
                if not any(samples.alike(thing, other) for other in itertools.permutations(range(3))):
                    self.refused(NoOrder, {}, in_order, self.house, thing)

    def test_no_house_ahead_of_no_order(self):
        for order in (None, (0,), (1, 0)):
            self.refused(NoHouse, {}, in_order, ((3, 0), ()), order)


class AgainstTheSlowOne(Other):
    """What the document tells in brackets of 80 and 81, with the burning told beat by beat."""

    def moved(self, tales, beats, heights, cords):
        """Tales with beats, heights and cords put through these."""
        return tuple(tuple((beats(beat), heights(height), None if by is None else cords(by))
                           for beat, height, by in tale) for tale in tales)

    def same(self, thing):
        return thing

    def test_later(self):
        for house, lights in samples.drawn(60, 83):
            slow, late = Slow(house, lights), Slow(house, later(house, lights, 9))
            self.assertEqual(late.tales, self.moved(slow.tales, lambda beat: beat + 9, self.same, self.same))
            self.assertEqual(late.catches,
                             tuple(None if beat is None else beat + 9 for beat in slow.catches))
            self.assertEqual(late.pieces, slow.pieces)

    def test_stretched(self):
        def longer(number):
            return number * 3

        for house, lights in samples.drawn(60, 84):
            slow = Slow(house, lights)
            long = Slow(stretched(house, 3), tuple((candle, 3 * beat) for candle, beat in lights))
            self.assertEqual(long.tales, self.moved(slow.tales, longer, longer, self.same))
            self.assertEqual(long.catches,
                             tuple(None if beat is None else longer(beat) for beat in slow.catches))

    def test_beside(self):
        rows = list(samples.drawn(80, 85, candles=3, most=5))
        for (one, its), (other, more) in zip(rows, rows[1:]):
            here, there = Slow(one, its), Slow(other, more)
            many, cords = len(one[0]), len(one[1])
            both = Slow(beside(one, other),
                        its + tuple((candle + many, beat) for candle, beat in more))
            behind = self.moved(there.tales, self.same, self.same, lambda by: by + cords)
            self.assertEqual(both.tales, here.tales + behind)
            self.assertEqual(both.catches, here.catches + there.catches)

    def test_in_order(self):
        for number, (house, lights) in enumerate(samples.drawn(60, 86)):
            orders = list(itertools.islice(itertools.permutations(range(len(house[0]))), 40))
            order = orders[number * 7 % len(orders)][::-1]
            slow = Slow(house, lights)
            told = Slow(in_order(house, order),
                        tuple(sorted((order.index(candle), beat) for candle, beat in lights)))
            self.assertEqual(told.tales, tuple(slow.tales[candle] for candle in order))
            self.assertEqual(told.catches, slow.catches)


if __name__ == "__main__":
    unittest.main()
