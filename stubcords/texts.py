"""Houses written as texts, and read from them."""

from stubcords.errors import NoText
from stubcords.houses import is_house, need_house

# A line for a desk may have a number of so many figures; those of a house have fewer.
MOST_FIGURES = 12


def house_text(house):
    """Tell the text of a house: its tops, then its cords."""
    need_house(house)
    tops, cords = house
    words = [",".join([str(top) for top in tops])]
    for one, at, other, to, long in cords:
        words.append(f"{one}@{at}>{other}@{to}+{long}")
    return " ".join(words)


def read_house(text):
    """Tell the house that a text writes just so."""
    if not isinstance(text, str):
        raise NoText("what is no text writes no house")
    words = text.split(" ")
    tops = tuple([number_in(word) for word in words[0].split(",")])
    cords = tuple([cord_in(word) for word in words[1:]])
    if not is_house((tops, cords)):
        raise NoText("the text writes no house")
    return tops, cords


def cord_in(word):
    """Tell the five numbers of a cord that is written in this word, None for each that isn't."""
    hook, _, rest = word.partition(">")
    end, _, long = rest.partition("+")
    one, _, at = hook.partition("@")
    other, _, to = end.partition("@")
    return tuple([number_in(part) for part in (one, at, other, to, long)])


def number_in(word):
    """Tell the number that is written in this word, None where it is none."""
    if not word.isascii() or not word.isdigit() or len(word) > MOST_FIGURES:
        return None
    # A nought stands ahead of no other figure.
    if word[0] == "0" and word != "0":
        return None
    return int(word)
