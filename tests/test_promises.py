"""Points 1 to 4, which hold for all functions of the interface."""

import copy
import itertools
import unittest

import samples
from stubcords.burning import burning, causes, height_at, is_burning, out_at
from stubcords.errors import NoBeat, NoCandle, NoHouse, NoLights, StubError
from stubcords.houses import are_lights, is_house
from stubcords.pieces import burnt, last_flame, most_flames, pieces

# Each function with its arguments' names, in their order.
FUNCTIONS = (
    (is_house, ("thing",)),
    (are_lights, ("house", "thing")),
    (burning, ("house", "lights")),
    (is_burning, ("house", "lights", "thing")),
    (height_at, ("house", "lights", "candle", "beat")),
    (out_at, ("house", "lights", "candle")),
    (causes, ("house", "lights", "candle")),
    (pieces, ("house", "lights")),
    (burnt, ("house", "lights")),
    (most_flames, ("house", "lights")),
    (last_flame, ("house", "lights")),
)
REFUSED = {"house": NoHouse, "lights": NoLights, "candle": NoCandle, "beat": NoBeat}


def good(house, lights):
    """Arguments by their names that nothing refuses."""
    return {"house": house, "lights": lights, "candle": 0, "beat": 4,
            "thing": burning(house, lights)}


def answer(function, values):
    """What the function tells, or the class of its refusal."""
    try:
        return function(*values)
    except StubError as refused:
        return type(refused)


class Point2(unittest.TestCase):
    """What this program told may be handed in again, and with parts otherwise."""

    def told(self):
        for house, lights in samples.SAMPLES:
            for function, names in FUNCTIONS:
                yield function(*(good(house, lights)[name] for name in names))

    def test_questions_of_anything_are_answered_with_a_truth(self):
        for house, lights in samples.SAMPLES:
            for thing in samples.ANYTHING + (house, lights, burning(house, lights)):
                for told in (is_house(thing), are_lights(house, thing),
                             is_burning(house, lights, thing)):
                    self.assertIs(type(told), bool)

    def test_answers_in_each_place(self):
        house, lights = samples.HOUSE, samples.LIGHTS
        things = list(self.told())
        for thing in things:
            self.assertIs(is_house(thing), False)
            self.assertIs(type(are_lights(house, thing)), bool)
            self.assertIs(is_burning(house, lights, thing),
                          samples.alike(thing, burning(house, lights)))
            for function, names in FUNCTIONS:
                for at, name in enumerate(names):
                    values = [good(house, lights)[known] for known in names]
                    values[at] = thing
                    told = answer(function, values)
                    if isinstance(told, type):
                        self.assertIs(told, REFUSED[name])

    def test_answers_with_parts_otherwise(self):
        for house, lights in samples.SAMPLES:
            for thing in samples.variants(pieces(house, lights)):
                self.assertIs(is_burning(house, lights, thing), False)
                self.assertIs(is_house(thing), False)

    def test_houses_and_lights_with_parts_otherwise(self):
        for house, lights in samples.SAMPLES[:8]:
            for thing in samples.variants(house):
                told = answer(burning, (thing, ()))
                self.assertEqual(told is NoHouse, not is_house(thing))
            for thing in samples.variants(lights):
                told = answer(burning, (house, thing))
                self.assertEqual(told is NoLights, not are_lights(house, thing))


class Point3(unittest.TestCase):
    def test_nothing_that_is_handed_in_is_changed(self):
        for function, names in FUNCTIONS:
            for at in range(len(names)):
                for thing in samples.ANYTHING:
                    values = [good(samples.HOUSE, samples.LIGHTS)[name] for name in names]
                    values[at] = copy.deepcopy(thing)
                    ahead = copy.deepcopy(values)
                    answer(function, values)
                    self.assertEqual(repr(values), repr(ahead))

    def test_a_refusal_changes_nothing(self):
        ahead = burning(samples.HOUSE, samples.LIGHTS)
        for function, names in FUNCTIONS:
            for thing in samples.ANYTHING:
                answer(function, [thing] * len(names))
        self.assertEqual(repr(burning(samples.HOUSE, samples.LIGHTS)), repr(ahead))

    def test_the_same_asked_again_has_the_same_answer(self):
        for house, lights in samples.SAMPLES:
            rows = []
            for _ in range(2):
                rows.append([repr(function(*(good(house, lights)[name] for name in names)))
                             for function, names in FUNCTIONS])
            self.assertEqual(rows[0], rows[1])

    def test_arguments_by_their_names_in_any_order(self):
        for house, lights in samples.SAMPLES:
            for function, names in FUNCTIONS:
                values = good(house, lights)
                told = repr(function(*(values[name] for name in names)))
                for order in itertools.permutations(names):
                    named = {name: values[name] for name in order}
                    self.assertEqual(repr(function(**named)), told)


class Point4(unittest.TestCase):
    def test_of_several_refusals_the_first(self):
        none = {"house": ((), ()), "lights": [(0, 0)], "candle": 2, "beat": -1, "thing": None}
        for function, names in FUNCTIONS:
            for marks in itertools.product((False, True), repeat=len(names)):
                values = good(samples.HOUSE, samples.LIGHTS)
                values.update((name, none[name]) for name, mark in zip(names, marks) if mark)
                due = [REFUSED[name] for name, mark in zip(names, marks) if mark and name in REFUSED]
                told = answer(function, [values[name] for name in names])
                if due:
                    self.assertIs(told, due[0], (function.__name__, values))
                else:
                    self.assertNotIsInstance(told, type)

    def test_anything_in_each_place_is_answered_or_refused_by_its_class(self):
        for function, names in FUNCTIONS:
            for at, name in enumerate(names):
                for thing in samples.ANYTHING:
                    values = [good(samples.HOUSE, samples.LIGHTS)[known] for known in names]
                    values[at] = thing
                    told = answer(function, values)
                    if isinstance(told, type) and name != "house":
                        self.assertIs(told, REFUSED[name])
                    if isinstance(told, type) and name == "house":
                        # Another house may be one in which these lights are none.
                        self.assertIs(told, NoHouse if not is_house(thing) else told)


class TheInterface(unittest.TestCase):
    def test_each_function_is_defined_in_its_file_with_its_names(self):
        files = ("houses",) * 2 + ("burning",) * 5 + ("pieces",) * 4
        for (function, names), file in zip(FUNCTIONS, files):
            self.assertEqual(function.__module__, "stubcords." + file)
            self.assertEqual(function.__code__.co_varnames[:function.__code__.co_argcount], names)


if __name__ == "__main__":
    unittest.main()
