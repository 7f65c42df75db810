"""Where the hooks of a web sit, and the corners of its spans."""

from hookspans.errors import BadCount, BadPlace
from hookspans.ratios import lowest


class Places:
    """A place for each hook, in parts of one, in lowest terms."""

    def __init__(self, numbers, parts):
        if parts < 1:
            raise BadCount("parts", parts)
        self.numbers, self.parts = lowest(numbers, parts)

    def __eq__(self, other):
        return type(self) is type(other) and (
            self.numbers == other.numbers and self.parts == other.parts
        )


def check_places(web, places):
    """Refuse places that the hooks of the web cannot have."""
    if len(places.numbers) != len(web.bars):
        raise BadCount("places", len(places.numbers))
    for at, bar in enumerate(web.bars):
        if not 0 <= places.numbers[at] <= bar.length * places.parts:
            raise BadPlace(at)


def is_within(web, places):
    """Tell whether each hook is within the span of its bar."""
    check_places(web, places)
    return all([
        bar.least * places.parts <= number <= bar.greatest * places.parts
        for bar, number in zip(web.bars, places.numbers)
    ])


def corners(web):
    """List the places at which each hook is at an end of its span."""
    return [Places(row, 1) for row in corner_rows(web)]


def corner_rows(web):
    """List the numbers of the corners, which are whole places."""
    return spread([ends(bar) for bar in web.bars])


def ends(bar):
    """List the ends of the span of a bar's hook."""
    if bar.least == bar.greatest:
        return [bar.least]
    return [bar.least, bar.greatest]


def spread(choices):
    """List the rows with one of each of the choices, the last turned soonest."""
    rows = [()]
    for choice in choices:
        rows = [row + (number,) for row in rows for number in choice]
    return rows


def exchanged(row, at, number):
    """Tell a row of numbers with another one where at points."""
    return row[:at] + (number,) + row[at + 1:]
