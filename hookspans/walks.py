"""Ways from places to places that turn one hook after another."""

from hookspans.places import Places, exchanged


def crossing(start, goal, parts, measure):
    """Tell places at which a measure is nought, on a way from start to goal.

    Start and goal are rows of numbers in the parts. The measure of such a row
    is straight in each hook by itself, at start from nought on, at goal at
    most nought; so where it changes its sign, there is just one hook to cut.
    """
    row = start
    here = measure(row)
    for at, number in enumerate(goal):
        ahead = exchanged(row, at, number)
        there = measure(ahead)
        if there < 0:
            return _cut(row, ahead, parts, here, there)
        row, here = ahead, there
    return Places(row, parts)


def _cut(row, ahead, parts, here, there):
    """Tell the places between two rows at which the measure is nought."""
    numbers = [
        here * later - there * sooner for sooner, later in zip(row, ahead)
    ]
    return Places(numbers, parts * (here - there))
