"""Bars and the webs that they make with rods."""

from hookspans.errors import BadCount, BadSpan, NoBar, NoRod, NotSquare, SameRod

LEAST_RODS = 3
MOST_RODS = 10
MOST_BARS = 8
MOST_HEIGHT = 10 ** 6
MOST_LENGTH = 10 ** 6


class Bar:
    """A bar on the rods a and b that carries the rod c by its hook."""

    def __init__(self, a, b, c, length, least, greatest):
        self.a = a
        self.b = b
        self.c = c
        self.length = length
        self.least = least
        self.greatest = greatest

    def __eq__(self, other):
        # A class below this one is another class, so isinstance is too wide.
        return type(self) is type(other) and (
            self.a == other.a
            and self.b == other.b
            and self.c == other.c
            and self.length == other.length
            and self.least == other.least
            and self.greatest == other.greatest
        )


class Web:
    """Rods, some of them held, and as many bars as rods hang."""

    def __init__(self, rods, held, bars):
        _check_rods(rods, held)
        _check_bars(rods, held, bars)
        self.rods = rods
        self.bars = tuple(bars)
        self._held = {rod: held[rod] for rod in sorted(held)}

    def held(self):
        return dict(self._held)

    def hanging(self):
        return [rod for rod in range(self.rods) if rod not in self._held]

    def __eq__(self, other):
        return type(self) is type(other) and (
            self.rods == other.rods
            and self._held == other._held
            and self.bars == other.bars
        )


def check_has_bar(web, bar):
    """Refuse a number that is none of a bar of the web."""
    if not 0 <= bar < len(web.bars):
        raise NoBar(bar)


def _check_rods(rods, held):
    if not LEAST_RODS <= rods <= MOST_RODS:
        raise BadCount("rods", rods)
    for rod in sorted(held):
        if not 0 <= rod < rods:
            raise NoRod(rod)
    # A loop of its own: a missing rod anywhere is told ahead of any height.
    for rod in sorted(held):
        if not -MOST_HEIGHT <= held[rod] <= MOST_HEIGHT:
            raise BadCount("height", held[rod])
    if not held:
        raise BadCount("held", 0)


def _check_bars(rods, held, bars):
    if not 1 <= len(bars) <= MOST_BARS:
        raise BadCount("bars", len(bars))
    wanted = rods - len(held)
    if len(bars) != wanted:
        raise NotSquare(len(bars), wanted)
    for number, bar in enumerate(bars):
        _check_bar(rods, number, bar)


def _check_bar(rods, number, bar):
    for rod in (bar.a, bar.b, bar.c):
        if not 0 <= rod < rods:
            raise NoRod(rod)
    if bar.b == bar.a:
        raise SameRod(bar.b)
    if bar.c in (bar.a, bar.b):
        raise SameRod(bar.c)
    if not 1 <= bar.length <= MOST_LENGTH:
        raise BadCount("length", bar.length)
    if not 0 <= bar.least <= bar.greatest <= bar.length:
        raise BadSpan(number)
