"""Point 100: a house's text, and the house that a text writes."""

import unittest

import samples
from interface import writes_a_house
from stubcords.errors import NoHouse, NoText
from stubcords.houses import is_house
from stubcords.texts import house_text, read_house

GREAT = ((1000000,) * 7, ((6, 999999, 6, 1000000, 1000000),) * 10)
# All signs that a text may have, line end first [2].
SIGNS = "\n" + "".join(chr(sign) for sign in range(32, 127) if sign != 37)
SHOWN = (
    ("1", ((1,), ())),
    ("3,2 0@2>1@1+4", samples.HOUSE),
    ("10,9,8", ((10, 9, 8), ())),
    ("4,4 1@3>0@2+9 0@1>0@4+10", ((4, 4), ((1, 3, 0, 2, 9), (0, 1, 0, 4, 10)))),
    (",".join(["1000000"] * 7) + " 6@999999>6@1000000+1000000" * 10, GREAT),
)


class Texts(unittest.TestCase):
    def just(self, told, right):
        self.assertEqual(repr(told), repr(right))

    def no_text(self, *things):
        for thing in things:
            with self.assertRaises(NoText) as caught:
                read_house(thing)
            self.assertIs(type(caught.exception), NoText)


class Written(Texts):
    def test_ordinary_houses(self):
        for text, house in SHOWN:
            self.just(house_text(house), text)

    def test_the_least_and_the_longest(self):
        self.just(house_text(((1,), ())), "1")
        self.assertEqual(len(house_text(GREAT)), 7 * 7 + 6 + 10 * 27)

    def test_drawn_houses(self):
        for house, lights in list(samples.drawn(200, 100)) + list(samples.SAMPLES):
            self.just(house_text(house), samples.written(house))

    def test_no_two_houses_have_one_text(self):
        houses = {repr(house): house for house, lights in samples.all_small()}
        texts = {house_text(house) for house in houses.values()}
        self.assertEqual(len(texts), len(houses))

    def test_no_house(self):
        for thing in samples.ANYTHING + ("3,2 0@2>1@1+4", ((0,), ()), ((1,) * 8, ())):
            if not samples.alike(thing, ((3,), ())):
                with self.assertRaises(NoHouse):
                    house_text(thing)


class Read(Texts):
    def test_ordinary_texts(self):
        for text, house in SHOWN:
            self.just(read_house(text), house)
        self.just(read_house(text="5"), ((5,), ()))

    def test_each_houses_text_reads_back(self):
        for house, lights in list(samples.drawn(200, 101)) + list(samples.SAMPLES):
            self.just(read_house(house_text(house)), house)
            self.just(read_house(samples.written(house)), house)
        for house, lights in samples.all_small():
            self.just(read_house(house_text(house)), house)

    def test_what_is_no_text(self):
        for thing in samples.ANYTHING:
            self.no_text(thing)
        self.no_text(samples.HOUSE, ["3,2"], ("3,2",), {"3": "2"}, 3, 12)

    def test_commas(self):
        self.no_text(",", "3,", ",3", "3,,2", "3,2,", ",3,2", "3;2", "3.2", "3, 2", "3 ,2", "3 2",
                     "3,2 0@2>1@1+4,", "3,2, 0@2>1@1+4", "3,2 0@2>1@1+4,0@2>1@1+4", "3,2 0,2>1@1+4")

    def test_blanks(self):
        self.no_text("", " ", "  ", " 3", "3 ", "3  ", " 3,2 0@2>1@1+4", "3,2 0@2>1@1+4 ",
                     "3,2  0@2>1@1+4", "3,2 0@2>1@1+4  0@2>1@1+4", "3,2 0 @2>1@1+4", "3,2 0@2 >1@1+4",
                     "3,2 0@2>1@1+ 4", "3,20@2>1@1+4", "3,2 0@2>1@1+40@2>1@1+4")

    def test_other_white_signs(self):
        self.no_text("3\n", "\n3", "3,2\n", "3,2\n0@2>1@1+4", "3,2\t0@2>1@1+4", "3,2 0@2>1@1+4\n",
                     "3,2 0@2>1@1+4\t", "3,\n2", "3,2 0@2>1@1+\n4", "3\r", "3\x0b", "3\x0c", "3\xa0")

    def test_signs(self):
        self.no_text("+3", "-3", "3,+2", "3,-2", "3,2 -0@2>1@1+4", "3,2 +0@2>1@1+4", "3,2 0@+2>1@1+4",
                     "3,2 0@2>1@-1+4", "3,2 0@2>1@1+-4", "3,2 0@2>1@1++4", "3,2 0@2>1@1-4",
                     "1_0", "3,2 0@2>1@1+1_0", "0x3", "3.0", "1e3", "'3'", "(3,)", "3L", "%")

    def test_marks_left_out_twice_or_at_another_place(self):
        self.no_text("3,2 02>1@1+4", "3,2 0@21@1+4", "3,2 0@2>11+4", "3,2 0@2>1@14", "3,2 0@@2>1@1+4",
                     "3,2 0@2>>1@1+4", "3,2 0@2>1@@1+4", "3,2 0@2>1+1@4", "3,2 0>2@1@1+4",
                     "3,2 0@2@1@1+4", "3,2 0@2>1>1+4", "3,2 0@2+1@1>4", "3,2 0@2>1@1+4+4",
                     "3,2 0@2>1@1+4>1", "3,2 0@2>1@1+4@1", "3,2 @0@2>1@1+4", "3,2 0@2>1@1+4+",
                     "3,2 0@2@1>1@1+4", "3,2 0@2>1@1@1+4", "3,2 >@+", "3,2 @>@+", "3,2 0@2>1@1",
                     "3,2 0@2", "3,2 0", "3,2 ,", "0@2>1@1+4", " 0@2>1@1+4")

    def test_figures_left_out(self):
        self.no_text("3,2 @2>1@1+4", "3,2 0@>1@1+4", "3,2 0@2>@1+4", "3,2 0@2>1@+4", "3,2 0@2>1@1+")

    def test_noughts_ahead(self):
        self.no_text("03", "003", "3,02", "00", "0", "3,2 00@2>1@1+4", "3,2 0@02>1@1+4",
                     "3,2 0@2>01@1+4", "3,2 0@2>1@01+4", "3,2 0@2>1@1+04", "3,2 0@2>1@1+000004")
        self.just(read_house("10,20 0@9>1@10+100"), ((10, 20), ((0, 9, 1, 10, 100),)))

    def test_figures_that_are_no_ascii_figures(self):
        for figure in ("\u0663", "\u00b3", "\u2083", "\uff13", "\u0969", "\u2462", "\U0001d7df"):
            self.no_text(figure, "3," + figure, figure + "3", "3,2 0@2>1@1+" + figure,
                         "3,2 0@" + figure + ">1@1+4")

    def test_numbers_that_no_house_has(self):
        self.no_text("1000001", "3,0", "1,1,1,1,1,1,1,1", "3,2 2@1>1@1+4", "3,2 0@3>1@1+4",
                     "3,2 0@0>1@1+4", "3,2 0@2>2@1+4", "3,2 0@2>1@3+4", "3,2 0@2>1@0+4",
                     "3,2 0@2>1@1+0", "3,2 0@2>1@1+1000001", "3,2" + " 0@2>1@1+4" * 11)
        self.just(read_house("3,2" + " 0@2>1@1+4" * 10), ((3, 2), ((0, 2, 1, 1, 4),) * 10))

    def test_long_texts(self):
        self.no_text("1" * 12, "1" * 13, "9" * 1000, "3,2 0@2>1@1+" + "4" * 900, "," * 1000, " " * 1000,
                     "3," * 500, "3,2" + " 0@2>1@1+4" * 99, "3" + " " * 999, "@" * 1000, ">" * 1000,
                     "9" * 5000, "3,2 0@2>1@1+" + "4" * 5000)

    def test_one_sign_otherwise_left_out_or_put_in(self):
        written = 0
        for text in ("1", "10", "3,2 0@2>1@1+4", "2,13 1@12>0@1+20 0@1>1@10+1"):
            for at in range(len(text) + 1):
                rows = [text[:at] + text[at + 1:], text[:at], text[at:], text[:at] + text[at:at + 1] + text[at:]]
                for sign in SIGNS:
                    rows += [text[:at] + sign + text[at:], text[:at] + sign + text[at + 1:]]
                for other in rows:
                    if writes_a_house(other):
                        written += 1
                        # What is read is what the text writes, and it writes nothing else.
                        self.just(house_text(read_house(other)), other)
                        self.just(samples.written(read_house(other)), other)
                        self.assertIs(is_house(read_house(other)), True)
                    else:
                        self.no_text(other)
        self.assertGreater(written, 200)


if __name__ == "__main__":
    unittest.main()
