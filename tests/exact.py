"""What the document asks of webs, worked out apart from the package."""

import itertools
import math
import random
from fractions import Fraction

from hookspans.webs import Bar, Web


def told(number):
    """A Fraction as the package tells it."""
    number = Fraction(number)
    return (number.numerator, number.denominator)


def places_of(places):
    """The hooks' places as Fractions."""
    return [Fraction(number, places.parts) for number in places.numbers]


def table_of(web, places):
    """The table of point 5, by the words of the document."""
    p = places.parts
    rows = []
    for bar, number in zip(web.bars, places.numbers):
        row = []
        for rod in web.hanging():
            if rod == bar.c:
                row.append(p * bar.length)
            elif rod == bar.a:
                row.append(number - p * bar.length)
            elif rod == bar.b:
                row.append(0 - number)
            else:
                row.append(0)
        rows.append(row)
    return rows


def product_of(numbers):
    out = 1
    for number in numbers:
        out *= number
    return out


def signed_sum(rows):
    """A determinant, as the sum over all orders of the columns."""
    total = 0
    for order in itertools.permutations(range(len(rows))):
        turned = sum(order[i] > order[j]
                     for i, j in itertools.combinations(range(len(rows)), 2))
        total += (-1) ** turned * product_of(
            rows[k][column] for k, column in enumerate(order))
    return total


def eliminated(rows):
    """A determinant, by Fractions: for tables too large for signed_sum."""
    rows = [[Fraction(number) for number in row] for row in rows]
    out = Fraction(1)
    for k in range(len(rows)):
        chief = next((r for r in range(k, len(rows)) if rows[r][k]), None)
        if chief is None:
            return 0
        if chief != k:
            rows[k], rows[chief] = rows[chief], rows[k]
            out = -out
        out *= rows[k][k]
        for r in range(k + 1, len(rows)):
            share = rows[r][k] / rows[k][k]
            rows[r] = [x - share * y for x, y in zip(rows[r], rows[k])]
    assert out.denominator == 1
    return int(out)


def determinant_of_table(rows):
    return signed_sum(rows) if len(rows) < 5 else eliminated(rows)


def determinant_of(web, places):
    return determinant_of_table(table_of(web, places))


def misses(web, places, heights):
    """By how much each bar misses what it asks of the heights (point 5)."""
    out = []
    for bar, x in zip(web.bars, places_of(places)):
        out.append(bar.length * heights[bar.c]
                   - ((bar.length - x) * heights[bar.a] + x * heights[bar.b]))
    return out


def heights_of(web, places):
    """The heights of all rods as Fractions."""
    level = [Fraction(web.held().get(rod, 0)) for rod in range(web.rods)]
    asked = [-miss * places.parts for miss in misses(web, places, level)]
    heights = list(level)
    for rod, height in zip(web.hanging(),
                           solved(table_of(web, places), asked)):
        heights[rod] = height
    return heights


def solved(rows, asked):
    """What the columns are to be taken times, so that the rows come to that."""
    rows = [[Fraction(number) for number in row] + [Fraction(end)]
            for row, end in zip(rows, asked)]
    for k in range(len(rows)):
        chief = next(r for r in range(k, len(rows)) if rows[r][k])
        rows[k], rows[chief] = rows[chief], rows[k]
        rows[k] = [number / rows[k][k] for number in rows[k]]
        for r in range(len(rows)):
            if r != k and rows[r][k]:
                rows[r] = [x - rows[r][k] * y
                           for x, y in zip(rows[r], rows[k])]
    return [row[-1] for row in rows]


def sum_of(web, weights, places):
    return sum(weight * height
               for weight, height in zip(weights, heights_of(web, places)))


def is_right_move(web, places, moved):
    """Whether point 6 has it: held at nought, straight, no common divisor."""
    return (type(moved) is tuple
            and len(moved) == web.rods
            and all(moved[rod] == 0 for rod in web.held())
            and any(moved)
            and math.gcd(*moved) == 1
            and not any(misses(web, places, moved)))


def corner_numbers(web):
    """The rows of the corners, in their order (point 7)."""
    return list(itertools.product(*[
        [bar.least] if bar.least == bar.greatest else [bar.least, bar.greatest]
        for bar in web.bars]))


def made(chance, many, length=6, tame=True, wide=True):
    """A web of so many bars; a tame one has a hook on each hanging rod."""
    rods = min(10, max(3, many + chance.randrange(1, 3)))
    held = chance.sample(range(rods), rods - many)
    hooks = [rod for rod in range(rods) if rod not in held]
    chance.shuffle(hooks)
    bars = []
    for hook in hooks:
        c = hook if tame else chance.randrange(rods)
        a, b = chance.sample([rod for rod in range(rods) if rod != c], 2)
        least, greatest = sorted(
            chance.choice(range(length + 1)) for _ in range(2))
        if not wide:
            greatest = min(greatest, least + 1)
        bars.append(Bar(a, b, c, length, least, greatest))
    return Web(rods, {rod: chance.randrange(-9, 10) for rod in held}, bars)


def many_webs(seed, count, sizes, **named):
    """Webs that are the same at each run."""
    chance = random.Random(seed)
    return [made(chance, chance.choice(sizes), **named) for _ in range(count)]


def is_firm_web(web):
    """Whether all corners have determinants of one sign (point 8)."""
    signs = corner_signs(web)
    return signs == {1} or signs == {-1}


def corner_signs(web):
    numbers = [determinant_of_row(web, row) for row in corner_numbers(web)]
    return {(number > 0) - (number < 0) for number in numbers}


class Row:
    """Places as the package tells them, made without it."""

    def __init__(self, numbers, parts):
        self.numbers = numbers
        self.parts = parts


def determinant_of_row(web, numbers, parts=1):
    return determinant_of(web, Row(numbers, parts))


def grid(web, steps, inside=False):
    """Rows in so many parts, evenly over the spans, ends left out if inside."""
    marks = []
    for bar in web.bars:
        wide = bar.greatest - bar.least
        shares = range(1, steps) if inside else range(steps + 1)
        marks.append([bar.least * steps + wide * share for share in shares]
                     if wide else [bar.least * steps])
    return [Row(numbers, steps) for numbers in itertools.product(*marks)]
