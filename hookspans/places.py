"""Where the hooks of a web sit, and the corners of its spans."""

from math import gcd

from hookspans.errors import BadCount, BadPlace


class Places:
    """A place for each hook, in parts of one, in lowest terms."""

    def __init__(self, numbers, parts):
        if parts < 1:
            raise BadCount("parts", parts)
        common = parts
        for number in numbers:
            common = gcd(common, number)
        self.numbers = tuple([number // common for number in numbers])
        self.parts = parts // common

    def __eq__(self, other):
        return type(self) is type(other) and (
            self.numbers == other.numbers and self.parts == other.parts
        )


def check_places(web, places):
    """Refuse places that the hooks of the web cannot have."""
    if len(places.numbers) != len(web.bars):
        raise BadCount("places", len(places.numbers))
    for at, bar in enumerate(web.bars):
        if not 0 <= places.numbers[at] <= bar.length * places.parts:
            raise BadPlace(at)


def is_within(web, places):
    """Tell whether each hook is within the span of its bar."""
    check_places(web, places)
    return all([
        bar.least * places.parts <= number <= bar.greatest * places.parts
        for bar, number in zip(web.bars, places.numbers)
    ])


def corners(web):
    """List the places at which each hook is at an end of its span."""
    rows = [()]
    for bar in web.bars:
        ends = _ends(bar)
        rows = [row + (end,) for row in rows for end in ends]
    return [Places(row, 1) for row in rows]


def _ends(bar):
    if bar.least == bar.greatest:
        return [bar.least]
    return [bar.least, bar.greatest]
