"""Point 90: a keeper, its deeds, what is told of it."""

import copy
import unittest
from random import Random

import samples
from beat_by_beat import Slow
from stubcords.errors import (
    HasLight, NoBeat, NoCandle, NoCord, NoDeed, NoHouse, NoLight, StubError,
)
from stubcords.houses import are_lights, is_house
from stubcords.keeper import Keeper

HOUSE = ((5, 6, 7), ((0, 4, 1, 6, 1), (1, 5, 2, 3, 2), (0, 1, 0, 2, 3), (2, 6, 1, 1, 4)))
NUMBERS_NOT = (None, True, False, "0", "", (), (0,), [], [0], {}, -1, 9999999999999)


def standing(keeper):
    """All that is told of a keeper but what == tells."""
    return repr((keeper.house(), keeper.lights(), keeper.burning(), len(keeper), repr(keeper)))


class Keeping(unittest.TestCase):
    def stands(self, keeper, house, lights, many):
        """Judge all that is told of a keeper; the burning beat by beat."""
        self.assertEqual(repr(keeper.house()), repr(house))
        self.assertEqual(repr(keeper.lights()), repr(lights))
        self.assertEqual(len(keeper), many)
        self.assertEqual(repr(keeper), f"Keeper({len(house[0])} candles, {len(lights)} lights)")
        slow = Slow(house, lights)
        self.assertEqual(repr(keeper.burning()), repr((slow.tales, slow.catches)))

    def refused(self, error, keeper, deed, *values):
        """Judge that a deed is refused, by just this class, and changes nothing."""
        ahead, twin = standing(keeper), keeper.twin()
        with self.assertRaises(error) as caught:
            deed(*values)
        self.assertIs(type(caught.exception), error)
        self.assertEqual(standing(keeper), ahead)
        self.assertTrue(keeper == twin)


class Made(Keeping):
    def test_at_first_without_lights_or_deeds(self):
        for house, lights in samples.SAMPLES[:9]:
            self.stands(Keeper(house), house, (), 0)

    def test_by_its_name(self):
        self.stands(Keeper(house=HOUSE), HOUSE, (), 0)

    def test_no_house_is_refused(self):
        for thing in samples.ANYTHING:
            if not samples.alike(thing, ((3,), ())):
                with self.assertRaises(NoHouse):
                    Keeper(thing)
        for thing in samples.variants(samples.HOUSE):
            if not is_house(thing):
                with self.assertRaises(NoHouse):
                    Keeper(thing)


class Light(Keeping):
    def test_lights_rise_in_whatever_order_they_come(self):
        keeper = Keeper(HOUSE)
        self.assertIs(keeper.light(1, 4), None)
        self.stands(keeper, HOUSE, ((1, 4),), 1)
        self.assertIs(keeper.light(2, 0), None)
        self.stands(keeper, HOUSE, ((1, 4), (2, 0)), 2)
        self.assertIs(keeper.light(0, 9), None)
        self.stands(keeper, HOUSE, ((0, 9), (1, 4), (2, 0)), 3)

    def test_by_their_names_in_any_order(self):
        one, other, third = Keeper(HOUSE), Keeper(HOUSE), Keeper(HOUSE)
        one.light(2, 1)
        other.light(candle=2, beat=1)
        third.light(beat=1, candle=2)
        for keeper in (one, other, third):
            self.stands(keeper, HOUSE, ((2, 1),), 1)

    def test_beats_from_0_to_1000000(self):
        keeper = Keeper(((5, 5), ()))
        keeper.light(0, 0)
        keeper.light(1, 1000000)
        self.assertEqual(keeper.lights(), ((0, 0), (1, 1000000)))
        for beat in NUMBERS_NOT + (1000001,):
            other = Keeper(HOUSE)
            self.refused(NoBeat, other, other.light, 0, beat)

    def test_no_candle(self):
        keeper = Keeper(HOUSE)
        for candle in NUMBERS_NOT + (3, 7):
            for beat in (0, None, -1, 1000001):
                self.refused(NoCandle, keeper, keeper.light, candle, beat)

    def test_a_light_told_twice(self):
        keeper = Keeper(HOUSE)
        keeper.light(1, 4)
        for beat in (4, 0, 1000000):
            self.refused(HasLight, keeper, keeper.light, 1, beat)
        self.stands(keeper, HOUSE, ((1, 4),), 1)

    def test_no_candle_then_no_beat_then_has_light(self):
        keeper = Keeper(HOUSE)
        keeper.light(1, 4)
        self.refused(NoCandle, keeper, keeper.light, True, True)
        self.refused(NoBeat, keeper, keeper.light, 1, True)
        self.refused(NoBeat, keeper, keeper.light, 1, 1000001)
        self.refused(HasLight, keeper, keeper.light, 1, 1000000)

    def test_a_candle_that_burns_without_a_light_may_have_one(self):
        keeper = Keeper(samples.HOUSE)
        keeper.light(0, 0)
        self.assertEqual(keeper.burning()[0][1], ((5, 1, 0),))
        keeper.light(1, 2)
        self.stands(keeper, samples.HOUSE, ((0, 0), (1, 2)), 2)


class Dark(Keeping):
    def test_a_light_is_taken_away(self):
        for candle, left in ((0, ((1, 4), (2, 0))), (1, ((0, 9), (2, 0))), (2, ((0, 9), (1, 4)))):
            keeper = Keeper(HOUSE)
            for light in ((1, 4), (2, 0), (0, 9)):
                keeper.light(*light)
            self.assertIs(keeper.dark(candle=candle), None)
            self.stands(keeper, HOUSE, left, 4)

    def test_the_only_one_then_another(self):
        keeper = Keeper(HOUSE)
        keeper.light(2, 5)
        self.assertIs(keeper.dark(2), None)
        self.stands(keeper, HOUSE, (), 2)
        keeper.light(2, 6)
        self.stands(keeper, HOUSE, ((2, 6),), 3)

    def test_none_taken_away(self):
        keeper = Keeper(HOUSE)
        self.refused(NoLight, keeper, keeper.dark, 0)
        keeper.light(1, 0)
        # Candle 2 burns by a cord, it has no light for that.
        self.assertTrue(keeper.burning()[0][2])
        for candle in (0, 2):
            self.refused(NoLight, keeper, keeper.dark, candle)
        keeper.dark(1)
        self.refused(NoLight, keeper, keeper.dark, 1)

    def test_no_candle_ahead_of_no_light(self):
        keeper = Keeper(HOUSE)
        for candle in NUMBERS_NOT + (3, 7):
            self.refused(NoCandle, keeper, keeper.dark, candle)
        keeper.light(1, 0)
        self.refused(NoCandle, keeper, keeper.dark, True)


class Cut(Keeping):
    def test_later_cords_one_number_lower(self):
        cords = HOUSE[1]
        for cord in range(4):
            keeper = Keeper(HOUSE)
            keeper.light(0, 2)
            self.assertIs(keeper.cut(cord=cord), None)
            self.stands(keeper, (HOUSE[0], cords[:cord] + cords[cord + 1:]), ((0, 2),), 2)

    def test_the_first_again_and_again(self):
        keeper = Keeper(HOUSE)
        for many in range(1, 5):
            self.assertIs(keeper.cut(0), None)
            self.stands(keeper, (HOUSE[0], HOUSE[1][many:]), (), many)
        self.refused(NoCord, keeper, keeper.cut, 0)

    def test_the_last_again_and_again(self):
        keeper = Keeper(HOUSE)
        for many in (3, 2, 1, 0):
            self.refused(NoCord, keeper, keeper.cut, many + 1)
            keeper.cut(many)
            self.stands(keeper, (HOUSE[0], HOUSE[1][:many]), (), 4 - many)
        self.refused(NoCord, keeper, keeper.cut, 0)

    def test_of_two_same_cords_one(self):
        cord = HOUSE[1][0]
        keeper = Keeper((HOUSE[0], (cord, cord)))
        keeper.cut(0)
        self.stands(keeper, (HOUSE[0], (cord,)), (), 1)

    def test_no_cord(self):
        for house in (HOUSE, ((5,), ())):
            keeper = Keeper(house)
            for cord in NUMBERS_NOT + (4, 10):
                self.refused(NoCord, keeper, keeper.cut, cord)
        keeper = Keeper(((5,), ()))
        self.refused(NoCord, keeper, keeper.cut, 0)


class Undo(Keeping):
    def test_no_deed_stands(self):
        keeper = Keeper(HOUSE)
        self.refused(NoDeed, keeper, keeper.undo)
        keeper.light(0, 0)
        keeper.undo()
        self.refused(NoDeed, keeper, keeper.undo)

    def test_each_deed_is_undone(self):
        keeper = Keeper(HOUSE)
        keeper.light(1, 3)
        for deed, values in ((keeper.light, (0, 5)), (keeper.dark, (1,)), (keeper.cut, (0,)),
                             (keeper.cut, (3,))):
            ahead = standing(keeper)
            self.assertIs(deed(*values), None)
            self.assertNotEqual(standing(keeper), ahead)
            self.assertIs(keeper.undo(), None)
            self.assertEqual(standing(keeper), ahead)

    def test_a_refused_deed_is_none_that_could_be_undone(self):
        keeper = Keeper(HOUSE)
        keeper.light(1, 3)
        self.refused(HasLight, keeper, keeper.light, 1, 3)
        self.refused(NoCord, keeper, keeper.cut, 4)
        keeper.undo()
        self.stands(keeper, HOUSE, (), 0)

    def test_what_is_undone_may_be_done_again(self):
        keeper = Keeper(HOUSE)
        for _ in range(3):
            keeper.cut(1)
            keeper.light(0, 8)
            keeper.undo()
            keeper.undo()
        self.stands(keeper, HOUSE, (), 0)

    def test_after_many_deeds_back_to_the_first(self):
        keeper = Keeper(HOUSE)
        stood = []
        for number in range(300):
            stood.append(standing(keeper))
            if number % 2:
                keeper.dark(1)
            else:
                keeper.light(1, number)
        self.assertEqual(len(keeper), 300)
        while stood:
            keeper.undo()
            self.assertEqual(standing(keeper), stood.pop())
        self.refused(NoDeed, keeper, keeper.undo)


class Twin(Keeping):
    def test_it_stands_alike_with_the_same_deeds(self):
        keeper = Keeper(HOUSE)
        keeper.light(0, 3)
        keeper.cut(2)
        keeper.light(2, 0)
        twin = keeper.twin()
        self.assertIs(type(twin), Keeper)
        self.assertIsNot(twin, keeper)
        self.assertTrue(twin == keeper)
        while len(keeper):
            self.assertEqual(standing(twin), standing(keeper))
            twin.undo()
            keeper.undo()
        self.stands(twin, HOUSE, (), 0)

    def test_of_a_keeper_without_deeds(self):
        twin = Keeper(HOUSE).twin()
        self.stands(twin, HOUSE, (), 0)
        self.refused(NoDeed, twin, twin.undo)

    def test_each_goes_on_by_itself(self):
        keeper = Keeper(HOUSE)
        keeper.light(1, 3)
        twin = keeper.twin()
        ahead = standing(keeper)
        twin.cut(0)
        twin.light(0, 1)
        self.assertEqual(standing(keeper), ahead)
        self.assertFalse(keeper == twin)
        changed = standing(twin)
        keeper.undo()
        keeper.cut(3)
        keeper.cut(1)
        self.assertEqual(standing(twin), changed)
        for _ in range(3):
            twin.undo()
        self.stands(twin, HOUSE, (), 0)
        self.stands(keeper, (HOUSE[0], (HOUSE[1][0], HOUSE[1][2])), (), 2)

    def test_twins_of_twins(self):
        keeper = Keeper(HOUSE)
        row = [keeper]
        for number in range(5):
            row.append(row[-1].twin())
            row[-1].light(number % 3, number) if number < 3 else row[-1].cut(0)
        self.assertEqual([len(each) for each in row], [0, 1, 2, 3, 4, 5])
        self.stands(row[0], HOUSE, (), 0)
        self.stands(row[3], HOUSE, ((0, 0), (1, 1), (2, 2)), 3)


class Alike(Keeping):
    def alike(self, one, other):
        for first, second in ((one, other), (other, one)):
            self.assertIs(first == second, True)
            self.assertIs(first != second, False)

    def unlike(self, one, other):
        for first, second in ((one, other), (other, one)):
            self.assertIs(first == second, False)
            self.assertIs(first != second, True)

    def test_of_the_same_house_and_lights(self):
        self.alike(Keeper(HOUSE), Keeper(copy.deepcopy(HOUSE)))
        keeper = Keeper(HOUSE)
        self.alike(keeper, keeper)

    def test_that_came_to_it_by_other_deeds(self):
        one, other = Keeper(HOUSE), Keeper((HOUSE[0], HOUSE[1][1:]))
        self.unlike(one, other)
        one.cut(0)
        self.alike(one, other)
        one.light(2, 5)
        one.light(0, 1)
        self.unlike(one, other)
        other.light(0, 1)
        other.light(1, 1)
        other.light(2, 5)
        self.unlike(one, other)
        other.dark(1)
        self.assertNotEqual(len(one), len(other))
        self.alike(one, other)
        one.undo()
        self.unlike(one, other)

    def test_unlike_in_one_thing(self):
        one = Keeper(HOUSE)
        one.light(0, 1)
        for light in ((0, 2), (1, 1)):
            other = Keeper(HOUSE)
            self.unlike(one, other)
            other.light(*light)
            self.unlike(one, other)
        for house in (((5, 6, 8), HOUSE[1]), (HOUSE[0], HOUSE[1][::-1]), (HOUSE[0], HOUSE[1][:3])):
            other = Keeper(house)
            other.light(0, 1)
            self.unlike(one, other)

    def test_to_things_of_other_kinds(self):
        keeper = Keeper(((3,), ()))
        for thing in samples.ANYTHING + (keeper.house(), (keeper.house(), ()), repr(keeper), [keeper],
                                         (keeper,), Keeper, object(), NoDeed("none")):
            self.unlike(keeper, thing)


class Shown(Keeping):
    def test_the_same_words_whatever_the_numbers(self):
        keeper = Keeper(((5,), ()))
        self.assertEqual(repr(keeper), "Keeper(1 candles, 0 lights)")
        keeper.light(0, 0)
        self.assertEqual(repr(keeper), "Keeper(1 candles, 1 lights)")
        keeper = Keeper(((5,) * 7, ()))
        for candle in range(7):
            self.assertEqual(repr(keeper), f"Keeper(7 candles, {candle} lights)")
            keeper.light(candle, 0)
        self.assertEqual(repr(keeper), "Keeper(7 candles, 7 lights)")

    def test_as_the_document_has_it(self):
        keeper = Keeper(HOUSE)
        keeper.light(0, 4)
        keeper.light(2, 4)
        self.assertEqual(repr(keeper), "Keeper(3 candles, 2 lights)")


class ManyDeeds(Keeping):
    """Drawn deeds, held against a row of houses and lights kept beside."""

    def due(self, house, lights, row, deed, values):
        """The refusal that is due of a deed, or house and lights behind it."""
        lit = dict(lights)
        if deed == "undo":
            return row[-1] if row else NoDeed
        if deed == "cut":
            if values[0] not in range(len(house[1])):
                return NoCord
            return (house[0], house[1][:values[0]] + house[1][values[0] + 1:]), lights
        if values[0] not in range(len(house[0])):
            return NoCandle
        if deed == "dark":
            if values[0] not in lit:
                return NoLight
            return house, tuple(light for light in lights if light[0] != values[0])
        if not 0 <= values[1] <= 1000000:
            return NoBeat
        if values[0] in lit:
            return HasLight
        return house, tuple(sorted(lights + (values,)))

    def test_drawn_deeds(self):
        seen = set()
        dice = Random(90)
        for house, _ in samples.drawn(60, 91, candles=4):
            keeper, lights, row = Keeper(house), (), []
            for _ in range(40):
                deed = dice.choice(("light", "light", "dark", "cut", "undo"))
                number = dice.randint(-1, 5)
                values = {"light": (number, dice.choice((-1, 0, 3, 8, 1000001))), "dark": (number,),
                          "cut": (number,), "undo": ()}[deed]
                due = self.due(house, lights, row, deed, values)
                seen.add((deed, due if isinstance(due, type) else None))
                if isinstance(due, type):
                    self.refused(due, keeper, getattr(keeper, deed), *values)
                    continue
                self.assertIs(getattr(keeper, deed)(*values), None)
                if deed == "undo":
                    row.pop()
                else:
                    row.append((house, lights))
                house, lights = due
                self.stands(keeper, house, lights, len(row))
                self.assertTrue(is_house(keeper.house()) and are_lights(keeper.house(), keeper.lights()))
        self.assertEqual(len(seen), 4 + 3 + 2 + 1 + 1, seen)

    def test_anything_in_each_place(self):
        for thing in samples.ANYTHING:
            keeper = Keeper(HOUSE)
            keeper.light(0, 0)
            ahead = standing(keeper)
            kept = copy.deepcopy(thing)
            for deed, values in ((keeper.light, (thing, 0)), (keeper.light, (1, thing)),
                                 (keeper.light, (thing, thing)), (keeper.dark, (thing,)),
                                 (keeper.cut, (thing,))):
                try:
                    deed(*values)
                except StubError:
                    self.assertEqual(standing(keeper), ahead)
                else:
                    self.assertIs(type(thing), int)
                    keeper.undo()
            self.assertEqual(repr(thing), repr(kept))
            self.assertEqual(standing(keeper), ahead)

    def test_what_is_asked_changes_nothing(self):
        keeper = Keeper(HOUSE)
        keeper.light(0, 2)
        keeper.cut(1)
        ahead = standing(keeper)
        for _ in range(2):
            self.assertEqual(standing(keeper), ahead)
            keeper.twin()
            self.assertFalse(keeper == None)  # noqa: E711


class Interface(unittest.TestCase):
    def test_each_method_is_defined_in_the_class_with_its_names(self):
        names = {"light": ("candle", "beat"), "dark": ("candle",), "cut": ("cord",), "undo": (),
                 "house": (), "lights": (), "burning": (), "twin": (), "__len__": (),
                 "__eq__": ("other",), "__repr__": (), "__init__": ("house",)}
        self.assertEqual(Keeper.__module__, "stubcords.keeper")
        for name, told in names.items():
            code = vars(Keeper)[name].__code__
            self.assertEqual(code.co_varnames[:code.co_argcount], ("self",) + told)


if __name__ == "__main__":
    unittest.main()
