"""What heights that are seen tell of where the hooks sit."""

from hookspans.errors import BadCount, NotHeld
from hookspans.ratios import fraction


def led(web, heights, *, parts=1):
    """List, for each bar, the one place that its hook can have, or a word."""
    _check_heights(web, heights, parts)
    return [_led_bar(bar, heights) for bar in web.bars]


def _check_heights(web, heights, parts):
    if parts < 1:
        raise BadCount("parts", parts)
    if len(heights) != web.rods:
        raise BadCount("heights", len(heights))
    held = web.held()
    for rod in sorted(held):
        if heights[rod] != held[rod] * parts:
            raise NotHeld(rod)


def _led_bar(bar, heights):
    """Tell "free", the place of the hook as a fraction, or "none"."""
    rise = heights[bar.b] - heights[bar.a]
    share = heights[bar.c] - heights[bar.a]
    if rise < 0:
        rise, share = -rise, -share
    if rise == share == 0:
        return "free"
    # The hook is as far along the bar as its rod's share of the rise.
    if not 0 <= share <= rise:
        return "none"
    return fraction(bar.length * share, rise)
