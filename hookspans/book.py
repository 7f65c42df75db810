"""A book of named webs, and of what is claimed of their sums."""

from hookspans.errors import BadCount, Loose, NoBack, NoName, NoWeb
from hookspans.figures import FIGURES
from hookspans.places import exchanged
from hookspans.ratios import is_less
from hookspans.reaches import reach
from hookspans.webs import Bar, Web, check_has_bar

MOST_WEBS = 8
MOST_SIGNS = 8
LETTERS = "abcdefghijklmnopqrstuvwxyz"


class Book:
    """Keeps webs by names and claims of them; each change can be taken back."""

    def __init__(self):
        self._webs = {}
        self._claims = []
        self._past = []

    def keep(self, name, web):
        """Keep a web by a name."""
        if not _is_name(name):
            raise NoName(name)
        if name not in self._webs and len(self._webs) == MOST_WEBS:
            raise BadCount("webs", MOST_WEBS + 1)
        self._put(name, web)

    def drop(self, name):
        """Drop a web, and with it what is claimed of it."""
        self._check_kept(name)
        self._mark(name)
        del self._webs[name]
        self._forget(name)

    def web(self, name):
        """Tell the web that is kept by a name."""
        self._check_kept(name)
        return self._webs[name]

    def names(self):
        """List the names of the webs, sorted."""
        return sorted(self._webs)

    def span(self, name, bar, least, greatest):
        """Give a bar's hook another span."""
        web = self.web(name)
        check_has_bar(web, bar)
        own = web.bars[bar]
        other = Bar(own.a, own.b, own.c, own.length, least, greatest)
        bars = exchanged(web.bars, bar, other)
        # A span that is none on the bar is refused by Web, as by this.
        self._put(name, Web(web.rods, web.held(), bars))

    def claim(self, name, weights, least):
        """Claim that a sum is at least a fraction, and tell if it is so now."""
        is_so = _is_so(self.web(name), weights, least)
        claimed = (name, tuple(weights), tuple(least))
        if claimed not in self._claims:
            self._mark(name)
            self._claims.append(claimed)
        return is_so

    def claims(self):
        """List the claims, in the order of claiming."""
        return list(self._claims)

    def broken(self):
        """List the claims that are not so now, in the order of claiming."""
        return [
            (name, weights, least) for name, weights, least in self._claims
            if not self._holds(name, weights, least)
        ]

    def many(self):
        """Tell how many changes can be taken back."""
        return len(self._past)

    def back(self):
        """Take the last change back."""
        if not self._past:
            raise NoBack()
        name, web, claims, many = self._past.pop()
        if web is None:
            del self._webs[name]
        else:
            self._webs[name] = web
        self._claims = claims[:many]

    def _check_kept(self, name):
        if name not in self._webs:
            raise NoWeb(name)

    def _put(self, name, web):
        """Keep a web, if it is another one than is kept by the name."""
        known = self._webs.get(name)
        if known == web:
            return
        self._mark(name)
        self._webs[name] = web
        if known is not None and known.rods != web.rods:
            self._forget(name)

    def _mark(self, name):
        """Note what is, ahead of a change of the web of a name or of claims.

        Claims are only put behind a list of them or left out of a new list,
        so what is in the list now can be told later by how many these are.
        """
        self._past.append(
            (name, self._webs.get(name), self._claims, len(self._claims))
        )

    def _forget(self, name):
        self._claims = [claim for claim in self._claims if claim[0] != name]

    def _holds(self, name, weights, least):
        try:
            return _is_so(self._webs[name], weights, least)
        except Loose:
            return False


def _is_name(name):
    return (
        1 <= len(name) <= MOST_SIGNS
        and name[0] in LETTERS
        and all([sign in LETTERS or sign in FIGURES for sign in name])
    )


def _is_so(web, weights, least):
    return not is_less(reach(web, weights).least, least)
