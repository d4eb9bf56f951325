"""A desk: lines of text that change a keeper or ask about it."""

from stubcords.burning import causes, height_at
from stubcords.errors import NoLine
from stubcords.houses import need_candle
from stubcords.keeper import Keeper
from stubcords.pieces import burnt
from stubcords.texts import house_text, number_in, read_house

FIRST = "3,2 0@2>1@1+4"
ANEW = "house "
DONE = "ok"


def light(keeper, candle, beat):
    """Give a candle a light."""
    keeper.light(candle, beat)
    return DONE


def dark(keeper, candle):
    """Take a candle's light away."""
    keeper.dark(candle)
    return DONE


def cut(keeper, cord):
    """Cut a cord off."""
    keeper.cut(cord)
    return DONE


def undo(keeper):
    """Undo the last deed."""
    keeper.undo()
    return DONE


def show(keeper):
    """Tell the house's text."""
    return house_text(keeper.house())


def tell_lights(keeper):
    """Tell each light as CANDLE:BEAT."""
    return in_a_row([f"{candle}:{beat}" for candle, beat in keeper.lights()])


def tell_tale(keeper, candle):
    """Tell each setting of a candle as BEAT:HEIGHT."""
    need_candle(keeper.house(), candle)
    tales, catches = keeper.burning()
    return in_a_row([f"{beat}:{height}" for beat, height, by in tales[candle]])


def tell_height(keeper, candle, beat):
    """Tell the height of a candle's flame in a beat."""
    return str(height_at(keeper.house(), keeper.lights(), candle, beat))


def tell_causes(keeper, candle):
    """Tell the numbers of a candle's causes."""
    numbers = causes(keeper.house(), keeper.lights(), candle) or ()
    return in_a_row([str(number) for number in numbers])


def tell_burnt(keeper):
    """Tell how many parts burn in all."""
    return str(burnt(keeper.house(), keeper.lights()))


def in_a_row(words):
    """Tell the words with a blank between each two, a dash where there are none."""
    return " ".join(words) if words else "-"


# What is done of a line with this word ahead of so many numbers.
ANSWERS = {
    ("light", 2): light,
    ("dark", 1): dark,
    ("cut", 1): cut,
    ("undo", 0): undo,
    ("show", 0): show,
    ("lights", 0): tell_lights,
    ("tale", 1): tell_tale,
    ("height", 2): tell_height,
    ("causes", 1): tell_causes,
    ("burnt", 0): tell_burnt,
}


class Desk:
    """Keeps a keeper that is told lines."""

    def __init__(self):
        self._keeper = Keeper(read_house(FIRST))

    def say(self, line):
        """Do what a line says, or answer it."""
        if not isinstance(line, str):
            raise NoLine("what is no text is no line")
        if line.startswith(ANEW):
            self._keeper = Keeper(read_house(line[len(ANEW):]))
            return DONE
        word, *numbers = parts_of(line)
        answer = ANSWERS[(word, len(numbers))]
        return answer(self._keeper, *numbers)


def parts_of(line):
    """Tell the word of a line and the numbers behind it; refuse a line of no such form."""
    word, *rest = line.split(" ")
    numbers = [number_in(part) for part in rest]
    if (word, len(numbers)) not in ANSWERS or None in numbers:
        raise NoLine("no line has this form")
    return word, *numbers
