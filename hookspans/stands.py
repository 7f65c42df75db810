"""How a web stands, or moves, with its hooks at told places."""

from hookspans.errors import Loose, NotLoose
from hookspans.places import check_places
from hookspans.ratios import divisor, lowest
from hookspans.tables import determinant_at, heights_at, move_at


class Stand:
    """The rods at heights, each a top over the bottom that all share."""

    def __init__(self, tops, bottom):
        self.tops = tuple(tops)
        self.bottom = bottom

    def __eq__(self, other):
        return type(self) is type(other) and (
            self.tops == other.tops and self.bottom == other.bottom
        )


def determinant(web, places):
    """Tell the determinant of the web's table at the places."""
    check_places(web, places)
    return determinant_at(web, places.numbers, places.parts)


def stand(web, places):
    """Tell the one stand that there is at the places."""
    check_places(web, places)
    found = heights_at(web, places.numbers, places.parts)
    if found is None:
        raise Loose()
    tops, bottom = lowest(found[0], found[1])
    return Stand(tops, bottom)


def move(web, places):
    """Tell how far the rods can move while the held ones stay."""
    check_places(web, places)
    moved = move_at(web, places.numbers, places.parts)
    if moved is None:
        raise NotLoose()
    common = divisor(moved)
    return tuple([number // common for number in moved])
