"""What the document promises over the whole program: how all that is told goes along together."""

import itertools
import unittest

import samples
from stubcords.burning import burning, causes, height_at, is_burning, out_at
from stubcords.cuts import darkening, dark_by_light, lighting, lit_by_cut, without
from stubcords.desk import Desk
from stubcords.keeper import Keeper
from stubcords.left import burning_down, lighting_all, lots_for, parting
from stubcords.lots import closed_with, is_closed, own_house, own_lights
from stubcords.other import beside, in_order, later, stretched
from stubcords.pieces import burnt, last_flame, most_flames, pieces
from stubcords.texts import house_text, read_house
from stubcords.tops import cut_and_rows, first_beats, is_top_house, shows_beats, shows_cut

MOST = 1000000


def moved(told, beats=lambda beat: beat, heights=lambda height: height, cords=lambda cord: cord):
    """A burning with its beats, heights and cords' numbers put through these."""
    tales, catches = told
    return (
        tuple(tuple((beats(beat), heights(height), None if by is None else cords(by))
                    for beat, height, by in tale) for tale in tales),
        tuple(None if beat is None else beats(beat) for beat in catches),
    )


def put(function, thing):
    """The number put through the function, None where it is None."""
    return None if thing is None else function(thing)


class Together(unittest.TestCase):
    def same(self, one, other):
        self.assertEqual(repr(one), repr(other))


class Later(Together):
    def judge(self, house, lights, by):
        late = later(house, lights, by)
        told = moved(burning(house, lights), beats=lambda beat: beat + by)
        self.same(burning(house, late), told)
        self.assertIs(is_burning(house, late, told), True)
        self.same(pieces(house, late), pieces(house, lights))
        self.assertEqual(burnt(house, late), burnt(house, lights))
        many, beat = most_flames(house, lights)
        self.assertEqual(most_flames(house, late), (many, beat + by if many else 0))
        self.assertEqual(last_flame(house, late), put(lambda last: last + by, last_flame(house, lights)))
        for candle in range(len(house[0])):
            self.assertEqual(out_at(house, late, candle),
                             put(lambda out: out + by, out_at(house, lights, candle)))
            self.same(causes(house, late, candle), causes(house, lights, candle))
            for beat in (0, 1, 4, 9):
                self.assertEqual(height_at(house, late, candle, beat + by),
                                 height_at(house, lights, candle, beat))
            if by:
                self.assertEqual(height_at(house, late, candle, by - 1), 0)

    def test_all_burning_is_so_much_later(self):
        for house, lights in samples.SAMPLES[:9]:
            for by in (0, 1, 7, 999990):
                self.judge(house, lights, by)
        for house, lights in samples.drawn(60, 110):
            self.judge(house, lights, 13)

    def test_cords_cut_are_the_same(self):
        for house, lights in samples.drawn(12, 111, candles=4, most=6):
            late = later(house, lights, 5)
            self.same(lit_by_cut(house, late), lit_by_cut(house, lights))
            for candle in range(len(house[0])):
                self.same(darkening(house, late, candle), darkening(house, lights, candle))
                self.same(lighting(house, late, candle), lighting(house, lights, candle))

    def test_first_beats_of_top_houses(self):
        for house, lights in samples.drawn(60, 112):
            house = samples.topped(house)
            late = later(house, lights, 21)
            told = tuple(put(lambda beat: beat + 21, beat) for beat in first_beats(house, lights))
            self.same(first_beats(house, late), told)
            self.assertIs(shows_beats(house, late, told), True)

    def test_later_and_later(self):
        for house, lights in samples.drawn(60, 113):
            self.same(later(house, later(house, lights, 4), 9), later(house, lights, 13))


class Stretched(Together):
    def judge(self, house, lights, times):
        def longer(number):
            return number * times

        long = stretched(house, times)
        slow = tuple((candle, beat * times) for candle, beat in lights)
        told = moved(burning(house, lights), longer, longer)
        self.same(burning(long, slow), told)
        self.assertIs(is_burning(long, slow, told), True)
        self.same(pieces(long, slow), tuple(
            tuple(((low - 1) * times + 1, high * times, word) for low, high, word in row)
            for row in pieces(house, lights)))
        self.assertEqual(burnt(long, slow), burnt(house, lights) * times)
        many, beat = most_flames(house, lights)
        self.assertEqual(most_flames(long, slow), (many, beat * times))
        last = last_flame(house, lights)
        self.assertEqual(last_flame(long, slow), put(lambda beat: (beat + 1) * times - 1, last))
        for candle in range(len(house[0])):
            self.assertEqual(out_at(long, slow, candle), put(longer, out_at(house, lights, candle)))
            self.same(causes(long, slow, candle), causes(house, lights, candle))
            for beat in (0, 1, 4, 9):
                self.assertEqual(height_at(long, slow, candle, beat * times),
                                 height_at(house, lights, candle, beat) * times)

    def test_all_burning_is_so_much_stretched(self):
        for house, lights in samples.SAMPLES[:9]:
            for times in (1, 2, 10, 100000):
                self.judge(house, lights, times)
        for house, lights in samples.drawn(60, 114):
            self.judge(house, lights, 6)

    def test_by_what_is_left(self):
        for house, lights in samples.drawn(15, 115, candles=4):
            long = stretched(house, 5)
            self.same(lighting_all(long), lighting_all(house))
            for candle in range(len(house[0])):
                self.same(burning_down(long, candle), burning_down(house, candle))
            for row in samples.all_rising(len(house[0])):
                lit = tuple((candle, 0) for candle in row)
                self.same(lots_for(long, pieces(long, lit)), lots_for(house, pieces(house, lit)))

    def test_of_two_houses_the_lot_that_parts_them(self):
        for house, lights in samples.drawn(40, 116, candles=3):
            other = (house[0], house[1][1:])
            self.same(parting(stretched(house, 4), stretched(other, 4)), parting(house, other))

    def test_cords_cut_and_lots(self):
        for house, lights in samples.drawn(40, 117, candles=4):
            long = stretched(house, 3)
            for cords in ((), tuple(range(len(house[1])))[::2], tuple(range(len(house[1])))[1:]):
                self.same(without(long, cords), stretched(without(house, cords), 3))
            for lot in samples.all_rising(len(house[0])):
                self.same(closed_with(long, lot), closed_with(house, lot))
                if lot and is_closed(house, lot):
                    self.same(own_house(long, lot), stretched(own_house(house, lot), 3))

    def test_top_houses(self):
        for house, lights in samples.drawn(40, 118):
            self.assertIs(is_top_house(stretched(house, 2)), is_top_house(house))
            house = samples.topped(house)
            slow = tuple((candle, 2 * beat) for candle, beat in lights)
            self.same(first_beats(stretched(house, 2), slow),
                      tuple(put(lambda beat: 2 * beat, beat) for beat in first_beats(house, lights)))

    def test_again_and_again(self):
        for house, lights in samples.drawn(40, 119):
            self.same(stretched(stretched(house, 4), 9), stretched(house, 36))


class Beside(Together):
    def pairs(self, many, seed, most=5):
        rows = list(samples.drawn(many, seed, candles=3, most=most))
        for (one, its), (other, more) in zip(rows, rows[1:]):
            moved_on = tuple((candle + len(one[0]), beat) for candle, beat in more)
            yield one, its, other, more, beside(one, other), its + moved_on

    def test_each_burns_as_it_does_alone(self):
        for one, its, other, more, both, lights in self.pairs(80, 120):
            here, there = burning(one, its), moved(burning(other, more), cords=lambda by: by + len(one[1]))
            told = (here[0] + there[0], here[1] + there[1])
            self.same(burning(both, lights), told)
            self.assertIs(is_burning(both, lights, told), True)
            self.same(pieces(both, lights), pieces(one, its) + pieces(other, more))
            self.assertEqual(burnt(both, lights), burnt(one, its) + burnt(other, more))
            for candle in range(len(other[0])):
                self.assertEqual(out_at(both, lights, candle + len(one[0])), out_at(other, more, candle))
            for candle in range(len(one[0])):
                self.same(causes(both, lights, candle), causes(one, its, candle))

    def test_both_parts_are_closed_and_their_own_houses(self):
        for one, its, other, more, both, lights in self.pairs(80, 121):
            first = tuple(range(len(one[0])))
            second = tuple(range(len(one[0]), len(both[0])))
            self.assertIs(is_closed(both, first) and is_closed(both, second), True)
            self.same(own_house(both, first), one)
            self.same(own_house(both, second), other)
            self.same(own_lights(both, lights, first), its)
            self.same(own_lights(both, lights, second), more)

    def test_cords_cut(self):
        for one, its, other, more, both, lights in self.pairs(20, 122, most=3):
            behind = len(one[1])
            self.same(without(both, tuple(range(behind))), beside((one[0], ()), other))
            self.same(without(both, tuple(range(behind, len(both[1])))), beside(one, (other[0], ())))
            for candle in range(len(one[0])):
                self.same(darkening(both, lights, candle), darkening(one, its, candle))
                self.same(lighting(both, lights, candle), lighting(one, its, candle))
            for candle in range(len(other[0])):
                self.same(darkening(both, lights, candle + len(one[0])),
                          put(lambda cords: tuple(cord + behind for cord in cords),
                              darkening(other, more, candle)))

    def test_by_what_is_left(self):
        for one, its, other, more, both, lights in self.pairs(20, 123):
            self.same(lighting_all(both), lighting_all(one) + tuple(
                candle + len(one[0]) for candle in lighting_all(other)))
            self.same(parting(both, both), None)

    def test_top_houses(self):
        for one, its, other, more, both, lights in self.pairs(60, 124):
            self.assertIs(is_top_house(both), is_top_house(one) and is_top_house(other))
            one, other = samples.topped(one), samples.topped(other)
            self.same(samples.topped(both), beside(one, other))
            self.same(first_beats(beside(one, other), lights), first_beats(one, its) + first_beats(other, more))


class InOrder(Together):
    def rows(self, many, seed, candles=5):
        for number, (house, lights) in enumerate(samples.drawn(many, seed, candles=candles)):
            orders = list(itertools.permutations(range(len(house[0]))))
            order = orders[number * 37 % len(orders)]
            yield house, lights, order, in_order(house, order), tuple(
                sorted((order.index(candle), beat) for candle, beat in lights))

    def test_it_burns_as_it_did(self):
        for house, lights, order, other, more in self.rows(100, 125):
            tales, catches = burning(house, lights)
            told = (tuple(tales[candle] for candle in order), catches)
            self.same(burning(other, more), told)
            self.assertIs(is_burning(other, more, told), True)
            rows = pieces(house, lights)
            self.same(pieces(other, more), tuple(rows[candle] for candle in order))
            self.assertEqual(burnt(other, more), burnt(house, lights))
            self.assertEqual(most_flames(other, more), most_flames(house, lights))
            self.assertEqual(last_flame(other, more), last_flame(house, lights))
            for place, candle in enumerate(order):
                known = causes(house, lights, candle)
                self.same(causes(other, more, place), put(lambda row: (order.index(row[0]),) + row[1:], known))

    def test_cords_cut(self):
        for house, lights, order, other, more in self.rows(15, 126, candles=4):
            some = tuple(range(len(house[1])))[::2]
            self.same(without(other, some), in_order(without(house, some), order))
            for place, candle in enumerate(order):
                self.same(darkening(other, more, place), darkening(house, lights, candle))
                self.same(lighting(other, more, place), lighting(house, lights, candle))
            self.assertIs(lit_by_cut(other, more) is None, lit_by_cut(house, lights) is None)
            self.assertIs(dark_by_light(other, more) is None, dark_by_light(house, lights) is None)

    def test_lots(self):
        for house, lights, order, other, more in self.rows(60, 127, candles=4):
            for lot in samples.all_rising(len(order)):
                places = tuple(sorted(order.index(candle) for candle in lot))
                self.assertIs(is_closed(other, places), is_closed(house, lot))
                self.same(closed_with(other, places),
                          tuple(sorted(order.index(candle) for candle in closed_with(house, lot))))
                lit = tuple((candle, 0) for candle in lot)
                left = pieces(house, lit)
                self.same(lots_for(other, tuple(left[candle] for candle in order)), tuple(sorted(
                    tuple(sorted(order.index(candle) for candle in row)) for row in lots_for(house, left))))

    def test_as_many_candles_in_any_order(self):
        for house, lights, order, other, more in self.rows(40, 128):
            self.assertEqual(len(lighting_all(other)), len(lighting_all(house)))
            for place, candle in enumerate(order):
                self.assertEqual(put(len, burning_down(other, place)), put(len, burning_down(house, candle)))

    def test_top_houses(self):
        for house, lights, order, other, more in self.rows(60, 129):
            self.assertIs(is_top_house(other), is_top_house(house))
            house, other = samples.topped(house), samples.topped(other)
            beats = first_beats(house, lights)
            self.same(first_beats(other, more), tuple(beats[candle] for candle in order))
            for place, candle in enumerate(order):
                if candle not in dict(lights):
                    told = cut_and_rows(house, lights, candle)
                    self.assertIs(shows_cut(other, more, place, told), True)
                    self.same(cut_and_rows(other, more, place)[0], told[0])


class OwnHouses(Together):
    """The own house of a closed lot goes along with all others."""

    def closed(self, many, seed):
        for house, lights in samples.drawn(many, seed, candles=4, most=5):
            for lot in samples.all_rising(len(house[0]))[1:]:
                if is_closed(house, lot):
                    yield house, lights, lot

    def test_its_burning_is_that_of_the_whole_house(self):
        for house, lights, lot in self.closed(60, 130):
            tales, catches = burning(house, lights)
            numbers = [number for number, cord in enumerate(house[1]) if cord[2] in lot]
            told = moved((tuple(tales[candle] for candle in lot), tuple(catches[by] for by in numbers)),
                         cords=numbers.index)
            self.same(burning(own_house(house, lot), own_lights(house, lights, lot)), told)

    def test_later_and_in_another_order(self):
        for house, lights, lot in self.closed(60, 131):
            own = own_house(house, lot)
            self.same(own_lights(house, later(house, lights, 8), lot),
                      later(own, own_lights(house, lights, lot), 8))
            order = lot + tuple(candle for candle in range(len(house[0])) if candle not in lot)
            self.same(own_house(in_order(house, order), tuple(range(len(lot)))), own)

    def test_cords_cut_that_are_not_its_own(self):
        for house, lights, lot in self.closed(40, 132):
            others = tuple(number for number, cord in enumerate(house[1]) if cord[2] not in lot)
            self.same(own_house(without(house, others), lot), own_house(house, lot))

    def test_beside_another_house(self):
        for house, lights, lot in self.closed(40, 133):
            self.same(own_house(beside(house, samples.HOUSE), lot), own_house(house, lot))
            behind = tuple(candle + 2 for candle in lot)
            self.same(own_house(beside(samples.HOUSE, house), behind), own_house(house, lot))


class KeepersAndDesks(Together):
    def test_a_keepers_burning_is_that_of_its_house_and_lights(self):
        for house, lights in list(samples.drawn(60, 134)) + list(samples.SAMPLES):
            keeper, desk = Keeper(house), Desk()
            desk.say("house " + house_text(house))
            for candle, beat in lights[::-1]:
                keeper.light(candle, beat)
                desk.say(f"light {candle} {beat}")
            self.same((keeper.house(), keeper.lights()), (house, lights))
            self.same(keeper.burning(), burning(house, lights))
            self.assertIs(is_burning(keeper.house(), keeper.lights(), keeper.burning()), True)
            for cord in range(len(house[1])):
                keeper.cut(0)
                desk.say("cut 0")
                cut = without(house, tuple(range(cord + 1)))
                self.same(keeper.house(), cut)
                self.same(keeper.burning(), burning(cut, lights))
                self.assertEqual(desk.say("show"), house_text(cut))
                self.assertEqual(desk.say("burnt"), str(burnt(cut, lights)))

    def test_houses_told_are_kept_and_written(self):
        for house, lights in samples.drawn(60, 135, candles=3, most=5):
            order = tuple(range(len(house[0])))[::-1]
            for told in (stretched(house, 8), beside(house, house), in_order(house, order),
                         without(house, tuple(range(len(house[1])))[1:]), samples.topped(house)):
                self.same(read_house(house_text(told)), told)
                self.same(Keeper(told).house(), told)
                self.same(Keeper(told).twin().house(), told)
                desk = Desk()
                self.assertEqual(desk.say("house " + house_text(told)), "ok")
                self.assertEqual(desk.say("show"), house_text(told))

    def test_lights_later_are_kept(self):
        for house, lights in samples.drawn(60, 136):
            keeper = Keeper(house)
            for candle, beat in later(house, lights, 100):
                keeper.light(candle, beat)
            self.same(keeper.burning(), moved(burning(house, lights), beats=lambda beat: beat + 100))

    def test_the_greatest_of_all(self):
        house = stretched(((4, 4), ((0, 1, 1, 4, 4), (1, 1, 0, 4, 4))), MOST // 4)
        keeper = Keeper(house)
        for candle, beat in later(house, ((0, 0),), MOST):
            keeper.light(candle, beat)
        self.same(keeper.burning(), ((((MOST, MOST, None),), ((2750000, MOST, 0),)), (1750000, 3500000)))
        self.assertEqual(house_text(house), "1000000,1000000 0@250000>1@1000000+1000000"
                                            " 1@250000>0@1000000+1000000")


if __name__ == "__main__":
    unittest.main()
