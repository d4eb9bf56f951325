"""Points 1 to 4, which hold for all functions of the interface."""

import copy
import itertools
import unittest

import samples
from interface import FILES, FUNCTIONS, answer, is_number, refusal, refused_by, values_for
from stubcords.burning import burning, is_burning
from stubcords.desk import Desk
from stubcords.errors import HasLight, NoBeat, NoCandle, NoCord, NoHouse, NoLight, NoLights, NoLine, NoText
from stubcords.houses import are_lights, is_house
from stubcords.keeper import Keeper
from stubcords.left import lots_for
from stubcords.pieces import pieces
from stubcords.texts import read_house
from stubcords.tops import cut_and_rows, first_beats, shows_beats, shows_cut

# Houses that are otherwise than those of the samples, for the places of houses.
OTHERS = (((3, 2), ((0, 1, 1, 1, 4),)), ((3, 2, 2), ((0, 2, 1, 2, 4), (2, 1, 0, 3, 1))), ((3,), ()))


def told():
    """Yield what each function tells of each sample."""
    for house, lights in samples.SAMPLES:
        for function, names, refusals in FUNCTIONS:
            yield function(*values_for(function, names, house, lights))


class Point2(unittest.TestCase):
    """What this program told may be handed in again, and with parts otherwise."""

    def test_questions_of_anything_are_answered_with_a_truth_or_lots(self):
        for house, lights in samples.SAMPLES:
            top = samples.topped(house)
            some = lights[:len(house[0]) - 1]
            dark = [candle for candle in range(7) if candle not in dict(some)][0]
            for thing in samples.ANYTHING + (house, lights, burning(house, lights)):
                for answered in (is_house(thing), are_lights(house, thing),
                                 is_burning(house, lights, thing), shows_beats(top, lights, thing),
                                 shows_cut(top, some, dark, thing)):
                    self.assertIs(type(answered), bool)
                self.assertIs(type(lots_for(house, thing)), tuple)

    def test_answers_in_each_place(self):
        things = list({repr(thing): thing for thing in told()}.values())
        self.assertGreater(len(things), 80)
        for function, names, refusals in FUNCTIONS:
            values = values_for(function, names, *samples.TOP)
            for at in range(len(names)):
                for thing in things:
                    handed = values[:at] + [thing] + values[at + 1:]
                    self.assertIs(refused_by(function, handed), refusal(names, refusals, handed))

    def test_each_answer_is_shown_to_be_itself_alone(self):
        things = list({repr(thing): thing for thing in told()}.values())
        for house, lights in samples.SAMPLES[:8]:
            top = samples.topped(house)
            some = lights[:len(house[0]) - 1]
            its = ((is_burning, (house, lights), burning(house, lights)),
                   (shows_beats, (top, some), first_beats(top, some)))
            for thing in things:
                for function, values, right in its:
                    self.assertIs(function(*values, thing), samples.alike(thing, right))

    def test_answers_with_parts_otherwise(self):
        for house, lights in samples.SAMPLES:
            for thing in samples.variants(pieces(house, lights)):
                self.assertIs(is_burning(house, lights, thing), False)
                self.assertIs(is_house(thing), False)

    def test_answers_with_parts_otherwise_in_each_place(self):
        things = [burning(*samples.TOP), first_beats(*samples.TOP), cut_and_rows(*samples.TOP, 2)]
        for function, names, refusals in FUNCTIONS:
            values = values_for(function, names, *samples.TOP)
            for at in range(len(names)):
                for thing in [values[at]] + things:
                    for other in samples.variants(thing):
                        handed = values[:at] + [other] + values[at + 1:]
                        self.assertIs(refused_by(function, handed),
                                      refusal(names, refusals, handed), handed)

    def test_houses_and_lights_with_parts_otherwise(self):
        for house, lights in samples.SAMPLES[:8]:
            for thing in samples.variants(house):
                self.assertEqual(refused_by(burning, (thing, ())) is NoHouse, not is_house(thing))
            for thing in samples.variants(lights):
                self.assertEqual(refused_by(burning, (house, thing)) is NoLights,
                                 not are_lights(house, thing))


class Point2KeepersAndDesks(unittest.TestCase):
    """What was told, and that with parts otherwise, handed to keepers and desks."""

    def judge(self, thing):
        self.assertIs(refused_by(Keeper, [thing]), None if is_house(thing) else NoHouse)
        keeper = Keeper(samples.TOP[0])
        keeper.light(0, 2)
        is_candle, is_cord = is_number(thing, 4), is_number(thing, 7)
        due = (NoLight if thing else None) if is_candle else NoCandle
        self.assertIs(refused_by(keeper.twin().dark, [thing]), due)
        self.assertIs(refused_by(keeper.twin().cut, [thing]), None if is_cord else NoCord)
        due = (None if thing else HasLight) if is_candle else NoCandle
        self.assertIs(refused_by(keeper.twin().light, [thing, 5]), due)
        due = None if is_number(thing, 1000001) else NoBeat
        self.assertIs(refused_by(keeper.twin().light, [1, thing]), due)
        self.assertIs(keeper == thing, False)
        self.assertEqual((keeper.house(), keeper.lights(), len(keeper)), (samples.TOP[0], ((0, 2),), 1))
        if thing not in ("show", "lights", "burnt"):
            self.assertIs(refused_by(Desk().say, [thing]), NoLine)
        if isinstance(thing, str):
            due = None if answer(read_house, [thing]) is not NoText else NoText
            self.assertIs(refused_by(Desk().say, ["house " + thing]), due)

    def test_what_was_told(self):
        for thing in list({repr(thing): thing for thing in told()}.values()):
            self.judge(thing)

    def test_with_parts_otherwise(self):
        for right in (samples.HOUSE, samples.LIGHTS, burning(*samples.TOP), first_beats(*samples.TOP),
                      samples.written(samples.HOUSE), 3):
            for thing in samples.variants(right):
                self.judge(thing)

    def test_of_anything(self):
        for thing in samples.ANYTHING:
            self.judge(thing)


class Point3(unittest.TestCase):
    def test_nothing_that_is_handed_in_is_changed(self):
        for function, names, refusals in FUNCTIONS:
            for at in range(len(names)):
                for thing in samples.ANYTHING:
                    values = values_for(function, names, *samples.TOP)
                    values[at] = copy.deepcopy(thing)
                    ahead = copy.deepcopy(values)
                    answer(function, values)
                    self.assertEqual(repr(values), repr(ahead))

    def test_lists_in_what_is_handed_in_are_not_changed(self):
        for house, lights in samples.SAMPLES:
            for function, names, refusals in FUNCTIONS:
                values = values_for(function, names, house, lights)
                for at, value in enumerate(values):
                    if isinstance(value, tuple):
                        handed = values[:at] + [listed(value)] + values[at + 1:]
                        ahead = copy.deepcopy(handed)
                        self.assertIs(refused_by(function, handed),
                                      refusal(names, refusals, handed))
                        self.assertEqual(repr(handed), repr(ahead))

    def test_a_refusal_changes_nothing(self):
        ahead = burning(*samples.TOP)
        for function, names, refusals in FUNCTIONS:
            for thing in samples.ANYTHING:
                answer(function, [thing] * len(names))
        self.assertEqual(repr(burning(*samples.TOP)), repr(ahead))

    def test_the_same_asked_again_has_the_same_answer(self):
        self.assertEqual([repr(thing) for thing in told()], [repr(thing) for thing in told()])

    def test_what_is_asked_between_changes_no_answer(self):
        for function, names, refusals in FUNCTIONS:
            rows = [values_for(function, names, *row) for row in samples.SAMPLES]
            ahead = [repr(function(*values)) for values in rows]
            behind = [repr(function(*values)) for values in reversed(rows)]
            self.assertEqual(ahead, behind[::-1])

    def test_arguments_by_their_names_in_any_order(self):
        for house, lights in samples.SAMPLES + (samples.TOP,):
            for function, names, refusals in FUNCTIONS:
                values = values_for(function, names, house, lights)
                right = repr(function(*values))
                for order in itertools.permutations(zip(names, values)):
                    self.assertEqual(repr(function(**dict(order))), right)

    def test_two_houses_by_their_names(self):
        for function, names, refusals in FUNCTIONS:
            if names == ("one", "other"):
                one, other = samples.HOUSE, OTHERS[0]
                self.assertEqual(function(one, other), function(other=other, one=one))

    def test_keepers_and_desks_are_changed_by_their_own_deeds_alone(self):
        keepers, desks = [Keeper(samples.TOP[0]) for _ in range(3)], [Desk() for _ in range(3)]
        keepers[0].light(1, 3)
        keepers[1].cut(2)
        desks[0].say("light 0 0")
        desks[1].say("cut 0")
        ahead = self.standing(keepers, desks)
        list(told())
        keepers[2].light(0, 0)
        keepers[2].undo()
        desks[2].say("light 1 1")
        desks[2].say("undo")
        self.assertEqual(self.standing(keepers, desks), ahead)
        self.assertEqual(len({repr(row) for row in ahead}), 6)

    def standing(self, keepers, desks):
        return [(keeper.house(), keeper.lights(), keeper.burning(), len(keeper)) for keeper in keepers] + [
            (desk.say("show"), desk.say("lights"), desk.say("burnt")) for desk in desks]


class Point4(unittest.TestCase):
    # For each name things that are refused, and things that may be.
    wrong = {
        "house": (((), ()), None) + OTHERS,
        "one": (((), ()), 3, ((1,) * 6, ())) + OTHERS,
        "other": (((), ()), [(3, 2), ()]) + OTHERS,
        "lights": ([(0, 0)], ((0, 0), (1, 1)), ((2, 0),)),
        "candle": (2, -1, True, None, 0, 1),
        "beat": (-1, 10 ** 12 + 1, False),
        "lot": ((1, 0), (0, 0), (), (1,), (0,), (2,), [0], ((0,),)),
        "cords": ((1, 0), (0, 0), (7,), (True,), [], None),
        "thing": (None, ((), ())),
        "by": (-1, 1000000, 1000001, True, None),
        "times": (0, 1, 1000001, 400000, True),
        "order": ((0, 1), (0, 0), (0, True), (1, 2, 0), [1, 0], ()),
        "text": ("", "3", "3,02", "3,2 0@3>1@1+4", None),
    }

    def test_of_several_refusals_the_first(self):
        seen = set()
        for function, names, refusals in FUNCTIONS:
            for house, lights in ((samples.HOUSE, samples.LIGHTS), samples.TOP):
                values = values_for(function, names, house, lights)
                rows = [(value,) + self.wrong[name] for name, value in zip(names, values)]
                for handed in itertools.product(*rows):
                    due = refusal(names, refusals, handed)
                    self.assertIs(refused_by(function, handed), due, (function.__name__, handed))
                    seen.add((function, due))
        for function, names, refusals in FUNCTIONS:
            for refused in (None,) + refusals:
                self.assertTrue((function, refused) in seen, (function.__name__, refused))

    def test_anything_in_each_place_is_answered_or_refused_by_its_class(self):
        for function, names, refusals in FUNCTIONS:
            for at in range(len(names)):
                for thing in samples.ANYTHING:
                    handed = values_for(function, names, *samples.TOP)
                    handed[at] = thing
                    self.assertIs(refused_by(function, handed), refusal(names, refusals, handed))

    def test_anything_in_all_places(self):
        for function, names, refusals in FUNCTIONS:
            for thing in samples.ANYTHING:
                handed = [thing] * len(names)
                self.assertIs(refused_by(function, handed), refusal(names, refusals, handed))


class TheInterface(unittest.TestCase):
    def test_each_function_is_defined_in_its_file_with_its_names(self):
        self.assertEqual(len(FILES), len(FUNCTIONS))
        for (function, names, refusals), file in zip(FUNCTIONS, FILES):
            self.assertEqual(function.__module__, "stubcords." + file)
            self.assertEqual(function.__code__.co_varnames[:function.__code__.co_argcount], names)


def listed(thing):
    """The thing with lists in place of all tuples."""
    return [listed(part) for part in thing] if isinstance(thing, tuple) else thing


if __name__ == "__main__":
    unittest.main()
