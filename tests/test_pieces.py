"""Points 30 and 31: what falls, and how many flames there are."""

import unittest

import samples
from beat_by_beat import Slow
from stubcords.errors import NoHouse, NoLights
from stubcords.pieces import burnt, last_flame, most_flames, pieces


class Point30(unittest.TestCase):
    def falls(self, house, lights, told, many):
        self.assertEqual(repr(pieces(house, lights)), repr(told))
        self.assertEqual(repr(burnt(house, lights)), repr(many))

    def test_a_candle_that_is_never_lit_is_whole(self):
        self.falls(((5, 1), ()), (), (((1, 5, "whole"),), ((1, 1, "whole"),)), 0)

    def test_a_candle_that_is_lit_at_its_top_burns_down(self):
        self.falls(((5, 2), ()), ((0, 3),), (((1, 5, "burnt"),), ((1, 2, "whole"),)), 5)
        self.falls(((1,), ()), ((0, 0),), (((1, 1, "burnt"),),), 1)

    def test_what_is_above_an_ember_falls(self):
        self.falls(samples.HOUSE, samples.LIGHTS,
                   (((1, 3, "burnt"),), ((1, 1, "burnt"), (2, 2, "fallen"))), 4)

    def test_nothing_falls_where_the_ember_comes_to_the_top(self):
        self.falls(((3, 2), ((0, 1, 1, 2, 1),)), ((0, 0),),
                   (((1, 3, "burnt"),), ((1, 2, "burnt"),)), 5)

    def test_what_is_between_a_flame_and_an_ember_falls(self):
        self.falls(((10,), ((0, 8, 0, 3, 2),)), ((0, 0),),
                   (((1, 3, "burnt"), (4, 6, "fallen"), (7, 10, "burnt")),), 7)

    def test_one_part_falls_and_one_part_burns(self):
        self.falls(((4,), ((0, 3, 0, 1, 1),)), ((0, 0),),
                   (((1, 1, "burnt"), (2, 2, "fallen"), (3, 4, "burnt")),), 3)
        self.falls(((9, 9), ((0, 8, 1, 7, 1), (0, 7, 1, 5, 1), (0, 6, 1, 2, 1))), ((0, 0), (1, 1)),
                   (((1, 9, "burnt"),),
                    ((1, 2, "burnt"), (3, 4, "fallen"), (5, 5, "burnt"), (6, 6, "fallen"),
                     (7, 7, "burnt"), (8, 8, "fallen"), (9, 9, "burnt"))), 14)

    def test_the_greatest_candles(self):
        self.falls(((1000000, 1000000), ((0, 999999, 1, 1, 1),)), ((0, 1000000),),
                   (((1, 1000000, "burnt"),), ((1, 1, "burnt"), (2, 1000000, "fallen"))), 1000001)

    def test_against_beat_for_beat(self):
        for house, lights in samples.drawn(2000, 8):
            slow = Slow(house, lights)
            self.assertEqual(repr(pieces(house, lights)), repr(slow.pieces), (house, lights))
            self.assertEqual(burnt(house, lights), sum(map(sum, slow.burnt_parts())))

    def test_rising_all_parts_and_no_two_of_one_word_touch(self):
        for house, lights in samples.drawn(500, 9):
            for top, row in zip(house[0], pieces(house, lights)):
                self.assertEqual(row, tuple(sorted(set(row))))
                ends = [0] + [high for low, high, word in row]
                self.assertEqual([low - 1 for low, high, word in row], ends[:-1])
                self.assertEqual(ends[-1], top)
                words = [word for low, high, word in row]
                self.assertTrue(all(one != other for one, other in zip(words, words[1:])))


class Point31(unittest.TestCase):
    def test_where_there_is_no_flame(self):
        self.assertEqual(repr(most_flames(samples.HOUSE, ())), "(0, 0)")
        self.assertIs(last_flame(samples.HOUSE, ()), None)

    def test_one_candle(self):
        self.assertEqual(most_flames(((5,), ()), ((0, 3),)), (1, 3))
        self.assertEqual(last_flame(((5,), ()), ((0, 3),)), 7)
        self.assertEqual(last_flame(((1,), ()), ((0, 0),)), 0)

    def test_a_flame_that_is_out_is_none_also_in_that_beat(self):
        self.assertEqual(most_flames(((3, 3), ()), ((0, 0), (1, 3))), (1, 0))
        self.assertEqual(most_flames(((3, 3), ()), ((0, 0), (1, 2))), (2, 2))
        self.assertEqual(last_flame(((3, 3), ()), ((0, 0), (1, 2))), 4)

    def test_the_least_beat_of_as_many(self):
        house = ((2, 2, 2, 2), ())
        self.assertEqual(most_flames(house, ((0, 5), (1, 5), (2, 0), (3, 1))), (2, 1))
        self.assertEqual(most_flames(house, ((0, 0), (1, 0), (2, 5), (3, 5))), (2, 0))
        self.assertEqual(most_flames(house, ((0, 7), (1, 7), (2, 7), (3, 1))), (3, 7))

    def test_a_flame_that_is_set_is_no_new_one(self):
        self.assertEqual(most_flames(((10,), ((0, 8, 0, 3, 2),)), ((0, 0),)), (1, 0))
        self.assertEqual(last_flame(((10,), ((0, 8, 0, 3, 2),)), ((0, 0),)), 6)

    def test_the_first_candle_may_be_the_last_to_burn(self):
        self.assertEqual(last_flame(((9, 2), ()), ((0, 0), (1, 3))), 8)
        self.assertEqual(last_flame(((2, 9), ()), ((0, 3), (1, 0))), 8)

    def test_against_beat_for_beat(self):
        for house, lights in samples.drawn(2000, 10):
            slow = Slow(house, lights)
            many = [len([flame for flame in row if flame]) for row in slow.heights] or [0]
            most = max(many)
            self.assertEqual(repr(most_flames(house, lights)), repr((most, many.index(most))))
            burns = [beat for beat, count in enumerate(many) if count]
            self.assertEqual(last_flame(house, lights), burns[-1] if burns else None)


class Refusals(unittest.TestCase):
    """Point 4: each error of its own class, the first that is due."""

    def test_no_house(self):
        for thing in samples.ANYTHING:
            if not samples.alike(thing, ((3,), ())):
                for ask in (pieces, burnt, most_flames, last_flame):
                    for lights in ((), None, thing):
                        with self.assertRaises(NoHouse):
                            ask(thing, lights)

    def test_no_lights(self):
        for thing in samples.ANYTHING + (((2, 0),), ((0, -1),), ((0, 0), (0, 1))):
            if thing not in ((), ((0, 0),)):
                for ask in (pieces, burnt, most_flames, last_flame):
                    with self.assertRaises(NoLights):
                        ask(samples.HOUSE, thing)


if __name__ == "__main__":
    unittest.main()
