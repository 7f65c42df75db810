"""The table of a web with its hooks at told places, and what comes of it.

Places stand here as a row of numbers and the parts that these are told in,
not in lowest terms: what is told of rows in the same parts can be compared.
"""


def bar_rows(web, numbers, parts):
    """List what each bar asks: a factor for each rod's height, nought in all."""
    rows = []
    for bar, number in zip(web.bars, numbers):
        row = [0] * web.rods
        row[bar.a] = number - parts * bar.length
        row[bar.b] = -number
        row[bar.c] = parts * bar.length
        rows.append(row)
    return rows


def is_straight(web, numbers, parts, heights):
    """Tell whether the heights, or how far they move, keep each bar straight."""
    return all([
        sum([factor * height for factor, height in zip(row, heights)]) == 0
        for row in bar_rows(web, numbers, parts)
    ])


def determinant_at(web, numbers, parts):
    """Tell the determinant of the table."""
    table = _table(web, numbers, parts)
    _, kept, shared = _cleared(table, len(table))
    if len(kept) < len(table):
        return 0
    return shared


def heights_at(web, numbers, parts):
    """Tell the tops of the rods' heights, and the bottom, above nought, of all.

    They are not in lowest terms: the bottom is the determinant but for its
    sign, so that tops and bottom are straight in each hook as long as the
    determinant keeps its sign. None where the table has no determinant.
    """
    table = _table(web, numbers, parts)
    asked = _asked(web, numbers, parts)
    rows = [row + [number] for row, number in zip(table, asked)]
    rows, kept, shared = _cleared(rows, len(table))
    if len(kept) < len(table):
        return None
    sign = -1 if shared < 0 else 1
    held = web.held()
    tops = [0] * web.rods
    for rod, height in held.items():
        tops[rod] = height * shared * sign
    for rod, row in zip(web.hanging(), rows):
        tops[rod] = row[-1] * sign
    return tops, shared * sign


def move_at(web, numbers, parts):
    """Tell how far each rod moves, not in lowest terms, in one of the moves.

    None where the rods cannot move.
    """
    table = _table(web, numbers, parts)
    rows, kept, shared = _cleared(table, len(table))
    hanging = web.hanging()
    free = [column for column in range(len(hanging)) if column not in kept]
    if not free:
        return None
    moved = [0] * web.rods
    moved[hanging[free[0]]] = shared
    for column, row in zip(kept, rows):
        moved[hanging[column]] = -row[free[0]]
    return moved


def _table(web, numbers, parts):
    hanging = web.hanging()
    return [
        [row[rod] for rod in hanging] for row in bar_rows(web, numbers, parts)
    ]


def _asked(web, numbers, parts):
    """List what the table's rows come to, by what falls on the held rods."""
    held = web.held()
    return [
        -sum([row[rod] * height for rod, height in held.items()])
        for row in bar_rows(web, numbers, parts)
    ]


def _cleared(rows, width):
    """Clear the columns ahead of width, but for one number in each.

    Told are the new rows; the columns, rising, in which a number could be
    kept, one in each row from the first one on; and that number, the same in
    all of them. Where it is kept in all columns of a square table, it is the
    table's determinant.
    """
    kept = []
    shared = 1
    for column in range(width):
        at = len(kept)
        found = [k for k in range(at, len(rows)) if rows[k][column] != 0]
        if found:
            rows = _swapped(rows, at, found[0])
            rows = _cleared_of(rows, at, column, shared)
            shared = rows[at][column]
            kept.append(column)
    return rows, kept, shared


def _swapped(rows, at, other):
    """Swap two rows; one turns its signs, so that the determinant stays."""
    if at == other:
        return rows
    rows = list(rows)
    rows[at], rows[other] = rows[other], [-number for number in rows[at]]
    return rows


def _cleared_of(rows, at, column, shared):
    """Clear a column by the row at which its number is kept.

    What was shared up to here goes into each new number without a rest, for
    all of them are determinants of parts of the table (Bareiss).
    """
    chief = rows[at]
    return [
        row if k == at else [
            (chief[column] * number - row[column] * against) // shared
            for number, against in zip(row, chief)
        ]
        for k, row in enumerate(rows)
    ]
