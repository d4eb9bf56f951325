"""Point 101: a desk that is told lines."""

import re
import unittest
from random import Random

import samples
from stubcords.burning import burning, causes, height_at
from stubcords.desk import Desk
from stubcords.errors import (
    HasLight, NoBeat, NoCandle, NoCord, NoDeed, NoLight, NoLine, NoText, StubError,
)
from stubcords.houses import is_house
from stubcords.keeper import Keeper
from stubcords.pieces import burnt
from stubcords.texts import house_text, read_house

FIRST = "3,2 0@2>1@1+4"
LONGER = "5,6,7 0@4>1@6+1 1@5>2@3+2 0@1>0@2+3 2@6>1@1+4"
# For each word the names of the numbers behind it.
FORMS = {"light": 2, "dark": 1, "cut": 1, "undo": 0, "show": 0, "lights": 0, "tale": 1, "height": 2,
         "causes": 1, "burnt": 0}
DEEDS = ("light", "dark", "cut", "undo")


def in_a_row(words):
    return " ".join(words) or "-"


def told(house, lights, line):
    """The answer to a question, by the functions; the candle of it is one of the house."""
    word, *numbers = line.split(" ")
    numbers = [int(number) for number in numbers]
    if word == "show":
        return house_text(house)
    if word == "lights":
        return in_a_row([f"{candle}:{beat}" for candle, beat in lights])
    if word == "burnt":
        return str(burnt(house, lights))
    if word == "tale":
        return in_a_row([f"{beat}:{height}" for beat, height, by in burning(house, lights)[0][numbers[0]]])
    if word == "height":
        return str(height_at(house, lights, *numbers))
    return in_a_row([str(number) for number in causes(house, lights, *numbers) or ()])


def is_line(thing):
    """Whether this is a line of a form of its own, `house` aside, straight from the words of [101]."""
    if type(thing) is not str:
        return False
    word, *numbers = thing.split(" ")
    return FORMS.get(word) == len(numbers) and all(
        re.fullmatch("0|[1-9][0-9]{0,11}", number, re.ASCII) for number in numbers)


def questions(house):
    """All questions that may be asked of a house, at some beats."""
    yield from ("show", "lights", "burnt")
    for candle in range(len(house[0])):
        yield from (f"tale {candle}", f"causes {candle}")
        for beat in (0, 1, 2, 3, 5, 9, 20, 999999999999):
            yield f"height {candle} {beat}"


class Desks(unittest.TestCase):
    def says(self, desk, *rows):
        """Say lines, each with its answer behind it."""
        for line, answer in rows:
            self.assertEqual((line, repr(desk.say(line))), (line, repr(answer)))

    def stands(self, desk, house, lights):
        """Judge all answers of a desk to questions."""
        for line in questions(house):
            self.says(desk, (line, told(house, lights, line)))

    def standing(self, desk):
        return [desk.say(line) for line in questions(read_house(desk.say("show")))]

    def refused(self, error, desk, *lines):
        """Judge that lines are refused by just this class, and change nothing."""
        ahead = self.standing(desk)
        for line in lines:
            with self.assertRaises(error) as caught:
                desk.say(line)
            self.assertIs(type(caught.exception), error)
        self.assertEqual(self.standing(desk), ahead)


class AtFirst(Desks):
    def test_the_first_house(self):
        desk = Desk()
        self.says(desk, ("show", FIRST), ("lights", "-"), ("burnt", "0"), ("tale 0", "-"),
                  ("tale 1", "-"), ("causes 0", "-"), ("causes 1", "-"), ("height 0 0", "0"))
        self.stands(desk, samples.HOUSE, ())
        self.refused(NoDeed, desk, "undo")

    def test_each_desk_by_itself(self):
        one, other = Desk(), Desk()
        one.say("light 0 0")
        self.stands(other, samples.HOUSE, ())
        self.stands(one, samples.HOUSE, samples.LIGHTS)

    def test_the_line_by_its_name(self):
        self.assertEqual(Desk().say(line="show"), FIRST)


class Told(Desks):
    def test_a_day_at_the_desk(self):
        self.says(Desk(), ("light 0 0", "ok"), ("lights", "0:0"), ("tale 0", "0:3"), ("tale 1", "5:1"),
                  ("height 0 2", "1"), ("height 1 5", "1"), ("height 1 6", "0"), ("causes 0", "0"),
                  ("causes 1", "0 0"), ("burnt", "4"), ("light 1 1000000", "ok"),
                  ("lights", "0:0 1:1000000"), ("cut 0", "ok"), ("show", "3,2"),
                  ("tale 1", "1000000:2"), ("undo", "ok"), ("show", FIRST), ("dark 0", "ok"),
                  ("lights", "1:1000000"), ("causes 0", "-"), ("burnt", "2"),
                  ("house 10 0@8>0@3+2", "ok"), ("lights", "-"), ("light 0 7", "ok"),
                  ("tale 0", "7:10 11:3"), ("burnt", "7"), ("causes 0", "0"), ("undo", "ok"),
                  ("lights", "-"), ("show", "10 0@8>0@3+2"))

    def test_many_settings_and_causes(self):
        desk = Desk()
        self.says(desk, ("house " + LONGER, "ok"), ("show", LONGER), ("light 0 0", "ok"))
        self.stands(desk, read_house(LONGER), ((0, 0),))
        self.says(desk, ("causes 2", "0 0 1"), ("tale 2", "5:3"))

    def test_as_the_functions_tell_it(self):
        for house, lights in list(samples.SAMPLES) + list(samples.drawn(60, 102)):
            desk = Desk()
            self.says(desk, ("house " + samples.written(house), "ok"))
            for candle, beat in lights:
                self.says(desk, (f"light {candle} {beat}", "ok"))
            self.stands(desk, house, lights)

    def test_numbers_of_twelve_figures(self):
        desk = Desk()
        desk.say("light 0 0")
        self.says(desk, ("height 0 999999999999", "0"))
        self.refused(NoBeat, desk, "light 1 999999999999", "light 1 100000000000")
        self.refused(NoCandle, desk, "tale 999999999999", "height 999999999999 0", "causes 999999999999",
                     "dark 999999999999", "light 999999999999 0")
        self.refused(NoCord, desk, "cut 999999999999")

    def test_numbers_of_thirteen_figures(self):
        self.refused(NoLine, Desk(), "height 0 1000000000000", "height 1000000000000 0",
                     "tale 1000000000000", "tale 9999999999999", "causes 1000000000000",
                     "dark 1000000000000", "cut 1000000000000", "light 0 1000000000000",
                     "light 1000000000000 0", "height 0 " + "1" * 900, "tale " + "9" * 5000)


class Houses(Desks):
    def test_a_keeper_anew(self):
        desk = Desk()
        self.says(desk, ("light 0 4", "ok"), ("cut 0", "ok"), ("house " + LONGER, "ok"))
        self.stands(desk, read_house(LONGER), ())
        self.refused(NoDeed, desk, "undo")

    def test_the_same_house_anew(self):
        desk = Desk()
        self.says(desk, ("light 0 4", "ok"), ("house " + FIRST, "ok"), ("lights", "-"))
        self.refused(NoDeed, desk, "undo")

    def test_without_cords(self):
        desk = Desk()
        self.says(desk, ("house 1", "ok"), ("show", "1"), ("burnt", "0"), ("light 0 0", "ok"),
                  ("tale 0", "0:1"), ("burnt", "1"))
        self.refused(NoCord, desk, "cut 0")
        self.refused(NoCandle, desk, "tale 1")

    def test_the_longest(self):
        text = ",".join(["1000000"] * 7) + " 6@999999>6@1000000+1000000" * 10
        desk = Desk()
        self.says(desk, ("house " + text, "ok"), ("show", text), ("cut 9", "ok"), ("show", text[:-27]))

    def test_alone_it_is_no_line(self):
        self.refused(NoLine, Desk(), "house", "houses", "house3", "house\n3", "house\t3", "House 3",
                     " house 3", "house,3", "HOUSE 3", "hous 3", "", " ")

    def test_with_a_text_that_writes_none(self):
        desk = Desk()
        desk.say("light 0 4")
        self.refused(NoText, desk, "house ", "house  ", "house  3", "house 3 ", "house 03", "house 0",
                     "house 3,", "house 3\n", "house \n", "house x", "house house 3", "house 3,2 0@2",
                     "house 3,2 0@2>1@1+4 ", "house 3,2  0@2>1@1+4", "house 1000001", "house undo",
                     "house " + "~" * 994, "house \u0663", "house show", "house None")
        self.says(desk, ("undo", "ok"), ("lights", "-"))

    def test_texts_with_a_part_otherwise(self):
        desk = Desk()
        text = "3,2 0@2>1@1+4"
        for at in range(len(text) + 1):
            for part in ("", " ", ",", "@", ">", "+", "-", "0", "1", "7", "\n", "x"):
                for other in (text[:at] + part + text[at:], text[:at] + part + text[at + 1:]):
                    try:
                        house = read_house(other)
                    except NoText:
                        self.refused(NoText, desk, "house " + other)
                    else:
                        self.says(desk, ("house " + other, "ok"), ("show", other))
                        self.assertIs(is_house(house), True)


class Refused(Desks):
    def test_what_is_no_text(self):
        desk = Desk()
        for thing in samples.ANYTHING:
            if type(thing) is not str:
                self.refused(NoLine, desk, thing)
        self.refused(NoLine, desk, ["show"], ("show",), {"show": 1}, ("light", 0, 0), ["undo"])

    def test_a_text_that_is_no_line(self):
        desk = Desk()
        for thing in samples.ANYTHING:
            if type(thing) is str:
                self.refused(NoLine, desk, thing)
        self.refused(NoLine, desk, "ok", "-", "0", "light", "Show", "SHOW", "quit", "len", "repr", "twin",
                     "burning", "say", FIRST, "3", "show\n", "\nshow", "undo\n", "undo\t", "show;undo")

    def test_numbers_left_out_or_put_in(self):
        desk = Desk()
        for word, many in FORMS.items():
            for wrong in range(5):
                if wrong != many:
                    self.refused(NoLine, desk, " ".join([word] + ["0"] * wrong))

    def test_blanks_at_an_end_or_two_side_by_side(self):
        desk = Desk()
        desk.say("light 0 0")
        desk.say("light 1 0")
        for word, many in FORMS.items():
            parts = [word] + ["0"] * many
            line = " ".join(parts)
            self.refused(NoLine, desk, " " + line, line + " ", "  " + line, line + "  ", line + "\n")
            for at in range(1, len(parts)):
                self.refused(NoLine, desk, " ".join(parts[:at]) + "  " + " ".join(parts[at:]),
                             " ".join(parts[:at]) + "\t" + " ".join(parts[at:]),
                             " ".join(parts[:at]) + "\n" + " ".join(parts[at:]),
                             " ".join(parts[:at]) + "".join(parts[at:]))

    def test_what_is_no_number(self):
        desk = Desk()
        wrong = ("", "00", "01", "+0", "-0", "-1", "+1", "1.0", "0x1", "1_0", "x", "None", "True", "0,", "(0)",
                 "1e1", "\u0663", "\u00b2", "\uff11", "0\n", "\n0", "\t0", "007", "0000000000001")
        for word, many in FORMS.items():
            for at in range(many):
                for part in wrong:
                    parts = ["0"] * many
                    parts[at] = part
                    self.refused(NoLine, desk, " ".join([word] + parts))

    def test_no_line_ahead_of_all_else(self):
        desk = Desk()
        self.refused(NoLine, desk, "light 9 01", "light 01 9", "dark 9 ", "cut 9 9", "undo 0", "tale 9 ",
                     "height 9 x", "height x 9", "causes 9 9")

    def test_each_deeds_refusals_in_their_order(self):
        desk = Desk()
        desk.say("light 0 3")
        self.refused(NoCandle, desk, "light 2 0", "light 2 1000001", "light 7 0", "dark 2", "dark 7")
        self.refused(NoBeat, desk, "light 0 1000001", "light 1 1000001")
        self.refused(HasLight, desk, "light 0 0", "light 0 3", "light 0 1000000")
        self.refused(NoLight, desk, "dark 1")
        self.refused(NoCord, desk, "cut 1", "cut 10")
        self.says(desk, ("undo", "ok"))
        self.refused(NoDeed, desk, "undo")

    def test_questions_of_no_candle(self):
        desk = Desk()
        for candle in (2, 3, 7, 10):
            self.refused(NoCandle, desk, f"tale {candle}", f"causes {candle}", f"height {candle} 0",
                         f"height {candle} 999999999999")

    def test_lines_with_a_part_otherwise(self):
        for line in ("light 0 3", "dark 0", "cut 0", "undo", "show", "lights", "tale 1", "height 1 5",
                     "causes 1", "burnt"):
            for other in samples.variants(line):
                desk = Desk()
                desk.say("light 0 0")
                ahead = self.standing(desk)
                try:
                    answer = desk.say(other)
                except StubError as refused:
                    self.assertIs(type(refused) is NoLine, not is_line(other), other)
                    self.assertEqual(self.standing(desk), ahead)
                else:
                    self.assertIs(type(answer), str)
                    self.assertIs(is_line(other), True)


class AgainstAKeeper(Desks):
    """Drawn lines, held against a keeper that is told the same deeds."""

    def test_drawn_lines(self):
        dice = Random(101)
        seen = set()
        for house, _ in samples.drawn(40, 103, candles=4):
            desk, keeper = Desk(), Keeper(house)
            desk.say("house " + samples.written(house))
            for _ in range(30):
                word = dice.choice(list(FORMS) + list(DEEDS) * 2)
                numbers = [dice.randint(0, 4) for _ in range(FORMS[word])]
                if word == "light" and dice.randint(0, 9) == 0:
                    numbers[1] = 1000001
                line = " ".join([word] + [str(number) for number in numbers])
                right = self.right(keeper, word, numbers, line)
                try:
                    answer = desk.say(line)
                except StubError as refused:
                    answer = type(refused)
                self.assertEqual(answer, right)
                seen.add((word, right if isinstance(right, type) else None))
                self.stands(desk, keeper.house(), keeper.lights())
        self.assertEqual(len(seen), 10 + 3 + 2 + 1 + 1 + 3)

    def right(self, keeper, word, numbers, line):
        """What the desk must answer, or the class of its refusal; the keeper does the deed."""
        try:
            if word in DEEDS:
                self.assertIs(getattr(keeper, word)(*numbers), None)
                return "ok"
            if numbers:
                causes(keeper.house(), keeper.lights(), numbers[0])
            return told(keeper.house(), keeper.lights(), line)
        except StubError as refused:
            return type(refused)


class Interface(unittest.TestCase):
    def test_say_is_defined_in_the_class(self):
        self.assertEqual(Desk.__module__, "stubcords.desk")
        code = vars(Desk)["say"].__code__
        self.assertEqual(code.co_varnames[:code.co_argcount], ("self", "line"))


if __name__ == "__main__":
    unittest.main()
