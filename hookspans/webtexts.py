"""Webs, fractions and places as texts, and webs read from theirs."""

from hookspans.errors import BadRow
from hookspans.figures import number_in, signed_in
from hookspans.ratios import fractions
from hookspans.webs import Bar, Web

# How many numbers stand behind the word that a row begins with.
NUMBERS = {"rods": 1, "held": 2, "bar": 6}


def web_rows(web):
    """List the rows of a web's text."""
    rows = [f"rods {web.rods}"]
    for rod, height in sorted(web.held().items()):
        rows.append(f"held {rod} {height}")
    for bar in web.bars:
        span = f"{bar.length} {bar.least} {bar.greatest}"
        rows.append(f"bar {bar.a} {bar.b} {bar.c} {span}")
    return rows


def read_web(rows):
    """Tell the web of which the rows are the text."""
    if not rows:
        raise BadRow(1)
    rods = 0
    held = {}
    bars = []
    for at, row in enumerate(rows, start=1):
        word, numbers = _read_row(row, at)
        if (word == "rods") != (at == 1):
            raise BadRow(at)
        if word == "rods":
            rods = numbers[0]
        elif word == "bar":
            bars.append(Bar(*numbers))
        elif bars or numbers[0] <= max(held, default=-1):
            raise BadRow(at)
        else:
            held[numbers[0]] = numbers[1]
    return Web(rods, held, bars)


def fraction_text(fraction):
    """Tell the text of a fraction."""
    top, bottom = fraction
    if bottom == 1:
        return str(top)
    return f"{top}/{bottom}"


def fractions_text(row):
    """Tell the texts of fractions, one blank apart."""
    return " ".join([fraction_text(told) for told in row])


def places_text(places):
    """Tell the texts of the hooks' places, one blank apart."""
    return fractions_text(fractions(places.numbers, places.parts))


def _read_row(row, at):
    """Tell the word of a row and its numbers, whatever rows stand ahead."""
    word, *parts = row.split(" ")
    if word not in NUMBERS or len(parts) != NUMBERS[word]:
        raise BadRow(at)
    if word == "held":
        return word, [number_in(parts[0], at), signed_in(parts[1], at)]
    return word, [number_in(part, at) for part in parts]
