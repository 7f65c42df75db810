"""Numbers as they are written in the parts of a row of text."""

from hookspans.errors import BadRow

FIGURES = "0123456789"
MOST_FIGURES = 7


def number_in(part, row):
    """Read a number without a sign, or refuse the row of this number."""
    if not _is_written(part):
        raise BadRow(row)
    return int(part)


def signed_in(part, row):
    """Read a number, behind a minus if below nought, or refuse the row."""
    if part.startswith("-") and part != "-0":
        return -number_in(part[1:], row)
    return number_in(part, row)


def _is_written(part):
    return (
        1 <= len(part) <= MOST_FIGURES
        and all([sign in FIGURES for sign in part])
        and (part == "0" or not part.startswith("0"))
    )
