"""What a sum, or being firm, leaves to the hook of one bar."""

from hookspans.errors import BadCount
from hookspans.firmness import check_firm
from hookspans.places import Places, ends, exchanged, spread
from hookspans.ratios import fraction, is_less
from hookspans.sums import check_sums, excess_at, sum_at
from hookspans.tables import determinant_at
from hookspans.webs import check_has_bar

# At more bars there would be too many places to look at.
MOST_HANGS_BARS = 6


class Widening:
    """How far a span may go, and whether it may go just to that place."""

    def __init__(self, least, greatest, is_least, is_greatest):
        self.least = tuple(least)
        self.greatest = tuple(greatest)
        self.is_least = is_least
        self.is_greatest = is_greatest

    def __eq__(self, other):
        return type(self) is type(other) and (
            self.least == other.least
            and self.greatest == other.greatest
            and self.is_least == other.is_least
            and self.is_greatest == other.is_greatest
        )


def band(web, weights, bar, *, low=None, high=None):
    """Tell the places of a bar's hook that keep the sum from low to high."""
    check_has_bar(web, bar)
    check_sums(web, weights)
    own = web.bars[bar]
    least = (own.least, 1)
    greatest = (own.greatest, 1)
    for here, there in _rooms(web, weights, bar, low, high):
        if here < 0 and there < 0:
            return None
        if here < 0:
            least = _greater(least, _root(own.least, own.greatest, here, there))
        if there < 0:
            greatest = _less(
                greatest, _root(own.least, own.greatest, here, there)
            )
    if is_less(greatest, least):
        return None
    return least, greatest


def widen(web, bar):
    """Tell how far the span of a bar's hook goes while the web is firm."""
    check_has_bar(web, bar)
    check_firm(web)
    length = web.bars[bar].length
    least = (0, 1)
    greatest = (length, 1)
    is_least = is_greatest = True
    for row in _other_corners(web, bar, 0):
        here, there = _firmness_along(web, bar, row)
        if here <= 0:
            least = _greater(least, _root(0, length, here, there))
            is_least = False
        if there <= 0:
            greatest = _less(greatest, _root(0, length, here, there))
            is_greatest = False
    return Widening(least, greatest, is_least, is_greatest)


def hangs(web, weights, bar):
    """Tell None, or two places that show that the sum hangs on a bar's hook."""
    check_has_bar(web, bar)
    if len(web.bars) > MOST_HANGS_BARS:
        raise BadCount("hangs", len(web.bars))
    check_sums(web, weights)
    own = web.bars[bar]
    choices = [_thirds(other) for other in web.bars]
    choices[bar] = [own.least * 2]
    for row in spread(choices):
        turned = exchanged(row, bar, own.greatest * 2)
        here = sum_at(web, weights, row, 2)
        if here != sum_at(web, weights, turned, 2):
            return Places(row, 2), Places(turned, 2)
    return None


def _thirds(bar):
    """List the ends and the middle of a span in halves, or its one place."""
    if bar.least == bar.greatest:
        return [bar.least * 2]
    return [bar.least * 2, bar.least + bar.greatest, bar.greatest * 2]


def _other_corners(web, bar, number):
    """List the corners of the other bars' spans, this bar's hook at a number."""
    choices = [ends(other) for other in web.bars]
    choices[bar] = [number]
    return spread(choices)


def _rooms(web, weights, bar, low, high):
    """List the rooms that the bounds leave, as numbers below nought for none.

    There is a pair for each bound and each corner of the others: the room
    with the bar's hook at the least place of its span and at the greatest.
    """
    bounds = [(low, 1), (high, -1)]
    bounds = [(bound, sign) for bound, sign in bounds if bound is not None]
    own = web.bars[bar]
    rooms = []
    for row in _other_corners(web, bar, own.least):
        turned = exchanged(row, bar, own.greatest)
        for bound, sign in bounds:
            here = excess_at(web, weights, bound, row, 1)
            there = excess_at(web, weights, bound, turned, 1)
            rooms.append((here * sign, there * sign))
    return rooms


def _firmness_along(web, bar, row):
    """Tell the determinants with a bar's hook at its two ends.

    Their signs are turned so that within the span they are above nought.
    """
    bar_length = web.bars[bar].length
    here = determinant_at(web, row, 1)
    there = determinant_at(web, exchanged(row, bar, bar_length), 1)
    within = exchanged(row, bar, web.bars[bar].least)
    if determinant_at(web, within, 1) < 0:
        return -here, -there
    return here, there


def _root(start, goal, here, there):
    """Tell the place from start to goal at which a straight measure is nought.

    The measure is here at start, there at goal, of unlike signs or one nought.
    """
    top = start * there - goal * here
    bottom = there - here
    if bottom < 0:
        return fraction(-top, -bottom)
    return fraction(top, bottom)


def _greater(one, other):
    return other if is_less(one, other) else one


def _less(one, other):
    return one if is_less(one, other) else other
