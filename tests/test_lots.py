"""Points 40 and 41: lots that nothing else feeds, and their own houses."""

import unittest

import samples
from beat_by_beat import Slow
from stubcords.burning import burning
from stubcords.errors import NoHouse, NoLights, NoLot, NotClosed
from stubcords.houses import are_lights, is_house
from stubcords.lots import closed_with, is_closed, own_house, own_lights

# 0 feeds 1 twice and itself, 1 and 2 feed one another, 2 feeds 3, 4 stands alone.
HOUSE = ((5, 6, 7, 8, 9),
         ((0, 4, 1, 6, 1), (1, 5, 2, 3, 2), (0, 1, 0, 2, 3), (2, 6, 1, 1, 4), (0, 2, 1, 2, 5),
          (2, 2, 3, 8, 6)))
LIGHTS = ((0, 3), (2, 1), (4, 0))
CLOSED = [(), (0,), (0, 1, 2), (0, 1, 2, 3), (0, 1, 2, 3, 4), (0, 1, 2, 4), (0, 4), (4,)]
BARE = ((3, 4, 5), ())
ROUND = ((3, 3, 3), ((0, 1, 1, 3, 1), (1, 1, 2, 3, 1), (2, 1, 0, 3, 1)))
NO_LOTS = ((1, 0), (0, 0), (0, 1, 1), (5,), (0, 5), (-1,), (-1, 0), (True,), (False,), (0, True),
           (None,), ("0",), ((0,),), [0], [], None, 0, "", {}, {0: 0}, ((), ()))


def closed_lots(house):
    """The closed lots, straight from the words."""
    return [lot for lot in samples.all_rising(len(house[0]))
            if all(one in lot for one, at, other, to, long in house[1] if other in lot)]


def own_numbers(house, lot):
    """The numbers of the cords of a closed lot's own house."""
    return [number for number, cord in enumerate(house[1]) if cord[2] in lot]


class Point40(unittest.TestCase):
    def test_all_lots_of_a_house(self):
        told = [lot for lot in samples.all_rising(5) if is_closed(HOUSE, lot)]
        self.assertEqual(told, CLOSED)
        for lot in samples.all_rising(5):
            self.assertIs(is_closed(HOUSE, lot), lot in CLOSED)

    def test_closed_with(self):
        for lot, told in (((), ()), ((0,), (0,)), ((1,), (0, 1, 2)), ((2,), (0, 1, 2)),
                          ((3,), (0, 1, 2, 3)), ((3, 4), (0, 1, 2, 3, 4)), ((4,), (4,)),
                          ((1, 4), (0, 1, 2, 4)), ((0, 1, 2, 3, 4), (0, 1, 2, 3, 4))):
            self.assertEqual(repr(closed_with(HOUSE, lot)), repr(told))

    def test_the_lot_of_none_and_the_lot_of_all(self):
        for house, lights in samples.SAMPLES:
            every = tuple(range(len(house[0])))
            for lot in ((), every):
                self.assertIs(is_closed(house, lot), True)
                self.assertEqual(repr(closed_with(house, lot)), repr(lot))

    def test_without_cords_all_lots_are_closed(self):
        for house in (BARE, ((1,), ()), ((2,) * 7, ())):
            for lot in samples.all_rising(len(house[0])):
                self.assertIs(is_closed(house, lot), True)
                self.assertEqual(closed_with(house, lot), lot)

    def test_a_cord_to_its_own_candle_feeds_no_other(self):
        house = ((5, 5), ((1, 3, 1, 2, 1),))
        self.assertIs(is_closed(house, (1,)), True)
        self.assertEqual(closed_with(house, (1,)), (1,))

    def test_round_about(self):
        for lot in samples.all_rising(3):
            self.assertIs(is_closed(ROUND, lot), lot in ((), (0, 1, 2)))
            self.assertEqual(closed_with(ROUND, lot), (0, 1, 2) if lot else ())

    def test_seven_candles_fed_one_by_the_next(self):
        chain = ((5,) * 7, tuple((candle + 1, 4, candle, 5, 1) for candle in range(6)))
        for candle in range(7):
            self.assertEqual(closed_with(chain, (candle,)), tuple(range(candle, 7)))
            self.assertIs(is_closed(chain, tuple(range(candle, 7))), True)
            self.assertIs(is_closed(chain, (candle,)), candle == 6)

    def test_against_all_lots(self):
        for house, lights in samples.drawn(150, 41):
            closed = closed_lots(house)
            for lot in samples.all_rising(len(house[0])):
                self.assertIs(is_closed(house, lot), lot in closed)
                around = [other for other in closed if set(lot) <= set(other)]
                least = closed_with(house, lot)
                self.assertIn(least, around)
                self.assertTrue(all(set(least) <= set(other) for other in around))


class Point41(unittest.TestCase):
    def test_own_house(self):
        self.assertEqual(own_house(HOUSE, (0,)), ((5,), ((0, 1, 0, 2, 3),)))
        self.assertEqual(own_house(HOUSE, (4,)), ((9,), ()))
        self.assertEqual(own_house(HOUSE, (0, 4)), ((5, 9), ((0, 1, 0, 2, 3),)))
        self.assertEqual(own_house(HOUSE, (0, 1, 2)), (HOUSE[0][:3], HOUSE[1][:5]))
        self.assertEqual(own_house(HOUSE, (0, 1, 2, 4)), ((5, 6, 7, 9), HOUSE[1][:5]))

    def test_candles_are_numbered_anew(self):
        house = ((5, 6, 7, 8), ((3, 7, 1, 2, 1), (0, 1, 2, 3, 4), (3, 6, 3, 5, 2), (1, 3, 0, 1, 1)))
        self.assertEqual(own_house(house, (1, 3)), ((6, 8), ((1, 7, 0, 2, 1), (1, 6, 1, 5, 2))))
        self.assertEqual(own_lights(house, ((0, 9), (1, 4), (2, 1), (3, 7)), (1, 3)), ((0, 4), (1, 7)))
        self.assertEqual(own_lights(house, ((0, 9), (3, 7)), (3,)), ((0, 7),))

    def test_own_lights(self):
        for lot, told in (((0,), ((0, 3),)), ((4,), ((0, 0),)), ((0, 4), ((0, 3), (1, 0))),
                          ((0, 1, 2), ((0, 3), (2, 1))), ((0, 1, 2, 4), ((0, 3), (2, 1), (3, 0)))):
            self.assertEqual(repr(own_lights(HOUSE, LIGHTS, lot)), repr(told))
        self.assertEqual(own_lights(HOUSE, (), (0, 4)), ())
        self.assertEqual(own_lights(HOUSE, ((2, 1),), (0, 4)), ())

    def test_of_all_candles_it_is_the_house_itself(self):
        for house, lights in samples.SAMPLES:
            every = tuple(range(len(house[0])))
            self.assertEqual(repr(own_house(house, every)), repr(house))
            self.assertEqual(repr(own_lights(house, lights, every)), repr(lights))

    def test_a_closed_lot_burns_as_it_burns_alone(self):
        many = 0
        for house, lights in samples.drawn(400, 42):
            whole = Slow(house, lights)
            for lot in closed_lots(house)[1:]:
                mine, its = own_house(house, lot), own_lights(house, lights, lot)
                self.assertIs(is_house(mine), True)
                self.assertIs(are_lights(mine, its), True)
                tales, catches = burning(mine, its)
                numbers = own_numbers(house, lot)
                told = tuple(
                    tuple((beat, height, None if by is None else numbers[by])
                          for beat, height, by in tale) for tale in tales)
                self.assertEqual(told, tuple(whole.tales[candle] for candle in lot))
                self.assertEqual(catches, tuple(whole.catches[number] for number in numbers))
                many += len(lot) < len(house[0]) and len(numbers) > 1 and len(its) > 0
        self.assertGreater(many, 100)


class Refusals(unittest.TestCase):
    """Point 4: each error of its own class, the first that is due."""

    def test_no_lot(self):
        for thing in NO_LOTS:
            for ask in (lambda: is_closed(HOUSE, thing), lambda: closed_with(HOUSE, thing),
                        lambda: own_house(HOUSE, thing), lambda: own_lights(HOUSE, LIGHTS, thing)):
                with self.assertRaises(NoLot):
                    ask()

    def test_no_lot_of_anything(self):
        for thing in samples.ANYTHING:
            if repr(thing) not in ("()", "(0,)"):
                for ask in (is_closed, closed_with, own_house):
                    with self.assertRaises(NoLot):
                        ask(HOUSE, thing)

    def test_a_lot_is_one_of_this_house(self):
        self.assertIs(is_closed(BARE, (2,)), True)
        for ask in (is_closed, closed_with, own_house):
            with self.assertRaises(NoLot):
                ask(((3, 4), ()), (2,))

    def test_not_closed(self):
        for lot in samples.all_rising(5):
            if lot == () or lot not in CLOSED:
                with self.assertRaises(NotClosed):
                    own_house(HOUSE, lot)
                with self.assertRaises(NotClosed):
                    own_lights(HOUSE, LIGHTS, lot)

    def test_the_first_that_is_due(self):
        for thing in NO_LOTS + ((1,), ()):
            for ask in (is_closed, closed_with, own_house):
                with self.assertRaises(NoHouse):
                    ask(((), ()), thing)
            with self.assertRaises(NoHouse):
                own_lights(((), ()), None, thing)
            with self.assertRaises(NoLights):
                own_lights(HOUSE, ((1, 0), (0, 0)), thing)


if __name__ == "__main__":
    unittest.main()
