"""The burning told from beat to beat, word by word as point 20 tells it.

Slow and only for small heights: the tests hold the program against it.
"""


class Slow:
    """A house burnt down.

    tales, catches: as in point 21. heights: for each beat from 0 on the height
    of each flame, all embers ahead. pieces: as in point 30.
    """

    def __init__(self, house, lights):
        self.tops, self.cords = house
        self.flames = [None] * len(self.tops)  # None: whole, 0: out
        self.tales = [[] for _ in self.tops]
        self.catches = [None] * len(self.cords)
        self.marks = [[("whole", 0)] * top for top in self.tops]
        self.heights = []
        self.coming = [(beat, candle, self.tops[candle], None) for candle, beat in lights]
        while self.goes_on():
            self.go(len(self.heights))
        self.tales = tuple(tuple(tale) for tale in self.tales)
        self.catches = tuple(self.catches)
        self.pieces = tuple(runs(row) for row in self.marks)

    def goes_on(self):
        beat = len(self.heights)
        return any(self.flames) or any(ember[0] >= beat for ember in self.coming)

    def go(self, beat):
        for candle, flame in enumerate(self.flames):
            if flame:
                self.marks[candle][flame - 1] = ("burnt", len(self.tales[candle]))
                self.flames[candle] = flame - 1
        for candle in range(len(self.tops)):
            here = [(height, by) for when, where, height, by in self.coming
                    if (when, where) == (beat, candle)]
            if here:
                self.ember(beat, candle, here)
        for number, (one, at, other, to, long) in enumerate(self.cords):
            if self.flames[one] == at:
                assert self.catches[number] is None, "a cord catches once at the most"
                self.catches[number] = beat
                self.coming.append((beat + long, other, to, number))
        self.heights.append([flame or 0 for flame in self.flames])

    def ember(self, beat, candle, here):
        low = min(height for height, by in here)
        bys = [by for height, by in here if height == low]
        flame = self.flames[candle]
        stands = self.tops[candle] if flame is None else flame
        if flame is None or flame > low:
            self.tales[candle].append((beat, low, None if None in bys else min(bys)))
            self.flames[candle] = low
            for part in range(low + 1, stands + 1):
                self.marks[candle][part - 1] = ("fallen", len(self.tales[candle]))

    def burnt_parts(self):
        """For each candle, for each part, whether it burnt."""
        return [[word == "burnt" for word, go in row] for row in self.marks]


def runs(marks):
    """Join the parts that burnt or fell at one go: (low, high, word) from below."""
    found = []
    for part, mark in enumerate(marks, start=1):
        if found and found[-1][2] == mark:
            found[-1][1] = part
        else:
            found.append([part, part, mark])
    return tuple((low, high, word) for low, high, (word, go) in found)
