"""Sums of a web's heights, each height times the weight of its rod."""

from hookspans.errors import BadCount
from hookspans.firmness import check_firm
from hookspans.ratios import fraction
from hookspans.tables import heights_at


def check_sums(web, weights):
    """Refuse weights that a web has not, and a web whose sums are not fixed."""
    if len(weights) != web.rods:
        raise BadCount("weights", len(weights))
    check_firm(web)


def sum_at(web, weights, numbers, parts):
    """Tell the sum at the places, a fraction."""
    top, bottom = _plain_sum(web, weights, numbers, parts)
    return fraction(top, bottom)


def excess_at(web, weights, bound, numbers, parts):
    """Measure by how much the sum at the places is above a bound, a fraction.

    Of a firm web this is straight in each hook by itself, and has the sign
    of the sum less the bound.
    """
    top, bottom = _plain_sum(web, weights, numbers, parts)
    return top * bound[1] - bottom * bound[0]


def _plain_sum(web, weights, numbers, parts):
    """Tell the top and the bottom, above nought, of the sum at the places.

    As those of heights_at they are not in lowest terms.
    """
    tops, bottom = heights_at(web, numbers, parts)
    return sum([weight * top for weight, top in zip(weights, tops)]), bottom
