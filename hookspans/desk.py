"""A desk that answers rows of text by rows of text, out of a book."""

from hookspans.bands import widen
from hookspans.book import Book
from hookspans.errors import BadRow, HooksError
from hookspans.figures import number_in, signed_in
from hookspans.firmness import Firm, firm
from hookspans.places import Places
from hookspans.ratios import fraction, fractions
from hookspans.reaches import order, reach
from hookspans.stands import stand
from hookspans.webtexts import fraction_text, fractions_text, read_web, web_rows

# A row that the desk is told has no other one ahead of it.
ROW = 1


def _keep(book, parts):
    web = read_web(" ".join(parts[1:]).split(" ; "))
    book.keep(parts[0], web)
    return ["done"]


def _drop(book, parts):
    book.drop(parts[0])
    return ["done"]


def _span(book, parts):
    bar, least, greatest = _numbers(parts[1:])
    book.span(parts[0], bar, least, greatest)
    return ["done"]


def _back(book, parts):
    book.back()
    return ["done"]


def _web(book, parts):
    return web_rows(book.web(parts[0]))


def _names(book, parts):
    return book.names()


def _firm(book, parts):
    paper = firm(book.web(parts[0]))
    return ["firm" if isinstance(paper, Firm) else "loose"]


def _stand(book, parts):
    places = Places(_numbers(parts[1:]), 1)
    told = stand(book.web(parts[0]), places)
    return [fractions_text(fractions(told.tops, told.bottom))]


def _reach(book, parts):
    weights = _signed_numbers(parts[1:])
    told = reach(book.web(parts[0]), weights)
    return [fractions_text([told.least, told.greatest])]


def _order(book, parts):
    return [f"{r} {u}" for r, u in order(book.web(parts[0]))]


def _widen(book, parts):
    bar = number_in(parts[1], ROW)
    told = widen(book.web(parts[0]), bar)
    return [fractions_text([told.least, told.greatest])]


def _claim(book, parts):
    top = signed_in(parts[1], ROW)
    bottom = number_in(parts[2], ROW)
    weights = _signed_numbers(parts[3:])
    if bottom < 1:
        raise BadRow(ROW)
    is_so = book.claim(parts[0], weights, fraction(top, bottom))
    return ["true" if is_so else "false"]


def _broken(book, parts):
    return [
        " ".join([name, fraction_text(least)] + [str(told) for told in weights])
        for name, weights, least in book.broken()
    ]


def _numbers(parts):
    return [number_in(part, ROW) for part in parts]


def _signed_numbers(parts):
    return [signed_in(part, ROW) for part in parts]


ANSWERS = {
    "keep": _keep,
    "drop": _drop,
    "span": _span,
    "back": _back,
    "web": _web,
    "names": _names,
    "firm": _firm,
    "stand": _stand,
    "reach": _reach,
    "order": _order,
    "widen": _widen,
    "claim": _claim,
    "broken": _broken,
}

# How many parts stand behind a row's word, and where there may be more.
PARTS = {
    "keep": 2,
    "drop": 1,
    "span": 4,
    "back": 0,
    "web": 1,
    "names": 0,
    "firm": 1,
    "stand": 2,
    "reach": 2,
    "order": 1,
    "widen": 2,
    "claim": 4,
    "broken": 0,
}
OPEN = ("keep", "stand", "reach", "claim")


class Desk:
    """Answers rows that are told, and refuses by a row, too."""

    def __init__(self):
        self.book = Book()

    def tell(self, row):
        """List the rows that answer a row."""
        try:
            return _answer(self.book, row)
        except HooksError as error:
            return [error.told()]


def _answer(book, row):
    word, *parts = row.split(" ")
    if word not in ANSWERS or "" in parts:
        raise BadRow(ROW)
    if len(parts) < PARTS[word]:
        raise BadRow(ROW)
    if len(parts) > PARTS[word] and word not in OPEN:
        raise BadRow(ROW)
    answer = ANSWERS[word]
    return answer(book, parts)
