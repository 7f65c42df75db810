"""Whether a web is firm, wherever within their spans the hooks sit."""

from hookspans.errors import Loose
from hookspans.places import corner_rows
from hookspans.ratios import divisor
from hookspans.stands import move
from hookspans.tables import determinant_at, is_straight
from hookspans.walks import crossing


class Firm:
    """Shows by the determinants of all corners that a web is firm."""

    def __init__(self, numbers):
        self.numbers = tuple(numbers)

    def __eq__(self, other):
        return type(self) is type(other) and self.numbers == other.numbers


class LooseAt:
    """Shows by places and a move there that a web is loose."""

    def __init__(self, places, moved):
        self.places = places
        self.moved = tuple(moved)

    def __eq__(self, other):
        return type(self) is type(other) and (
            self.places == other.places and self.moved == other.moved
        )


def firm(web, *, inside=False):
    """Tell a Firm, or a LooseAt, of hooks within or inside of their spans."""
    numbers = _corner_determinants(web)
    if _signs_hold(numbers, inside):
        return Firm(numbers)
    places = _loose_places(web, numbers, inside)
    return LooseAt(places, move(web, places))


def is_firm(web, paper, *, inside=False):
    """Tell whether the paper shows that the web is firm."""
    if type(paper) is not Firm:
        return False
    numbers = _corner_determinants(web)
    return paper.numbers == tuple(numbers) and _signs_hold(numbers, inside)


def is_loose(web, paper, *, inside=False):
    """Tell whether the paper shows that the web is loose."""
    if type(paper) is not LooseAt:
        return False
    if not _can_sit(web, paper.places, inside):
        return False
    return _is_move(web, paper.places, paper.moved)


def check_firm(web):
    """Refuse a web that is not firm."""
    if not _signs_hold(_corner_determinants(web), False):
        raise Loose()


def _corner_determinants(web):
    return [determinant_at(web, row, 1) for row in corner_rows(web)]


def _signs_hold(numbers, inside):
    least = min(numbers)
    greatest = max(numbers)
    if inside:
        # Inside, each corner has its share: noughts matter only if all are so.
        return (
            (least >= 0 and greatest > 0) or (greatest <= 0 and least < 0)
        )
    return least > 0 or greatest < 0


def _loose_places(web, numbers, inside):
    rows = corner_rows(web)
    start = rows[numbers.index(max(numbers))]
    goal = rows[numbers.index(min(numbers))]
    parts = 1
    if inside:
        parts = _inner_parts(web, start, goal)
        start = _moved_in(web, start, parts)
        goal = _moved_in(web, goal, parts)
    return crossing(
        start, goal, parts, lambda row: determinant_at(web, row, parts)
    )


def _inner_parts(web, start, goal):
    """Tell parts so small that one of them inside each corner's sign stays."""
    parts = 2
    while not (
        _sign_stays(web, start, parts) and _sign_stays(web, goal, parts)
    ):
        parts = parts * 2
    return parts


def _sign_stays(web, row, parts):
    at_corner = determinant_at(web, row, 1)
    moved_in = determinant_at(web, _moved_in(web, row, parts), parts)
    return at_corner * moved_in > 0 or at_corner == moved_in == 0


def _moved_in(web, row, parts):
    """Move each hook from its end, by one of the parts of its span."""
    return tuple([
        end * (parts - 1) + (bar.least + bar.greatest - end)
        for bar, end in zip(web.bars, row)
    ])


def _can_sit(web, places, inside):
    """Tell whether there are such places, within or inside of the spans."""
    if len(places.numbers) != len(web.bars):
        return False
    return all([
        _is_in_span(bar, number, places.parts, inside)
        for bar, number in zip(web.bars, places.numbers)
    ])


def _is_in_span(bar, number, parts, inside):
    least = bar.least * parts
    greatest = bar.greatest * parts
    if inside and least < greatest:
        return least < number < greatest
    return least <= number <= greatest


def _is_move(web, places, moved):
    """Tell whether this is a move at the places, as stands.move has it."""
    if len(moved) != web.rods or divisor(moved) != 1:
        return False
    if any([moved[rod] != 0 for rod in web.held()]):
        return False
    return is_straight(web, places.numbers, places.parts, moved)
