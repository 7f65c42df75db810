"""How far a sum of heights reaches, and which rods stand above which."""

from hookspans.errors import Beyond
from hookspans.firmness import check_firm
from hookspans.places import Places, corner_rows, corners
from hookspans.ratios import is_less
from hookspans.sums import check_sums, excess_at, sum_at
from hookspans.tables import heights_at
from hookspans.walks import crossing


class Reach:
    """The least and the greatest sum, and the corners at which they are had."""

    def __init__(self, least, greatest, low, high):
        self.least = tuple(least)
        self.greatest = tuple(greatest)
        self.low = low
        self.high = high

    def __eq__(self, other):
        return type(self) is type(other) and (
            self.least == other.least
            and self.greatest == other.greatest
            and self.low == other.low
            and self.high == other.high
        )


def reach(web, weights):
    """Tell how far the sum reaches while the hooks are within their spans."""
    check_sums(web, weights)
    rows = corner_rows(web)
    sums = _corner_sums(web, weights)
    low = high = 0
    for at, told in enumerate(sums):
        if is_less(told, sums[low]):
            low = at
        if is_less(sums[high], told):
            high = at
    return Reach(
        sums[low], sums[high], Places(rows[low], 1), Places(rows[high], 1)
    )


def is_reach(web, weights, paper):
    """Tell whether the paper shows how far the sum reaches."""
    check_sums(web, weights)
    if type(paper) is not Reach:
        return False
    sums = _corner_sums(web, weights)
    return (
        _is_had(web, sums, paper.least, paper.low)
        and _is_had(web, sums, paper.greatest, paper.high)
        and not any([is_less(told, paper.least) for told in sums])
        and not any([is_less(paper.greatest, told) for told in sums])
    )


def met(web, weights, goal):
    """Tell places within the spans at which the sum is the goal."""
    found = reach(web, weights)
    if is_less(goal, found.least) or is_less(found.greatest, goal):
        raise Beyond(found.least, found.greatest)
    return crossing(
        found.high.numbers, found.low.numbers, 1,
        lambda row: excess_at(web, weights, goal, row, 1)
    )


def order(web):
    """List the pairs of rods, the first above the second at all hooks."""
    check_firm(web)
    rods = range(web.rods)
    pairs = [(r, u) for r in rods for u in rods]
    for row in corner_rows(web):
        tops, _ = heights_at(web, row, 1)
        pairs = [(r, u) for r, u in pairs if tops[r] > tops[u]]
    return pairs


def _corner_sums(web, weights):
    return [sum_at(web, weights, row, 1) for row in corner_rows(web)]


def _is_had(web, sums, told, corner):
    """Tell whether the sum at the places, if they are a corner, is as told."""
    found = corners(web)
    return corner in found and sums[found.index(corner)] == told
