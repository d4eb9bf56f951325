"""The errors by which the program refuses what is handed in."""


class StubError(ValueError):
    """Any refusal of this program."""


class NoHouse(StubError):
    """What should be a house is none."""


class NoLights(StubError):
    """What should be lights of a house are none."""


class NoLot(StubError):
    """What should be a lot of candles is none."""


class NoCandle(StubError):
    """What should be a candle's number is none."""


class NoBeat(StubError):
    """What should be a beat, or so many beats, is none."""


class NotClosed(StubError):
    """A lot should be closed, with one candle or more, and isn't."""


class NoCords(StubError):
    """What should be a rising tuple of cords' numbers is none."""


class NoCord(StubError):
    """What should be a cord's number is none."""


class UnlikeMany(StubError):
    """Two houses should have as many candles, and haven't."""


class NotTops(StubError):
    """A house should be a top house, and isn't."""


class HasLight(StubError):
    """A candle should have no light, and has one."""


class NoLight(StubError):
    """A candle should have a light, and has none."""


class NoTimes(StubError):
    """What should be so many times is no such number."""


class NoOrder(StubError):
    """What should be all candles in some order isn't."""


class NoDeed(StubError):
    """No deed stands that could be undone."""


class NoText(StubError):
    """What should be a house's text is none."""


class NoLine(StubError):
    """What should be a line for a desk is none."""


class TooMany(StubError):
    """There are more of something than a house may have."""

    def __init__(self, many, most):
        StubError.__init__(self, f"{many} are too many, {most} is the most")
        self.many = many
        self.most = most


class TooMuch(StubError):
    """A number is greater than it may be."""

    def __init__(self, much, most):
        StubError.__init__(self, f"{much} is too much, {most} is the most")
        self.much = much
        self.most = most
