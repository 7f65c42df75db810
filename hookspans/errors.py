"""The refusals of hookspans, each straight under HooksError."""


class HooksError(ValueError):
    """The base of all refusals."""


class BadCount(HooksError):
    """There are too few or too many of something."""

    def __init__(self, what, count):
        self.what = what
        self.count = count

    def told(self):
        return "refused badcount"


class NoRod(HooksError):
    """A web has no rod of this number."""

    def __init__(self, rod):
        self.rod = rod

    def told(self):
        return "refused norod"


class SameRod(HooksError):
    """A bar has this rod twice."""

    def __init__(self, rod):
        self.rod = rod

    def told(self):
        return "refused samerod"


class BadSpan(HooksError):
    """The span of this bar's hook is not one on the bar."""

    def __init__(self, bar):
        self.bar = bar

    def told(self):
        return "refused badspan"


class NotSquare(HooksError):
    """There are not as many bars as hanging rods."""

    def __init__(self, bars, wanted):
        self.bars = bars
        self.wanted = wanted

    def told(self):
        return "refused notsquare"


class BadPlace(HooksError):
    """The hook would sit off this bar."""

    def __init__(self, bar):
        self.bar = bar

    def told(self):
        return "refused badplace"


class Loose(HooksError):
    """The web is loose."""

    def told(self):
        return "refused loose"


class NotLoose(HooksError):
    """The web is not loose."""

    def told(self):
        return "refused notloose"


class Beyond(HooksError):
    """The goal lies outside of what is reached."""

    def __init__(self, least, greatest):
        self.least = least
        self.greatest = greatest

    def told(self):
        return "refused beyond"


class NoBar(HooksError):
    """A web has no bar of this number."""

    def __init__(self, bar):
        self.bar = bar

    def told(self):
        return "refused nobar"


class NotHeld(HooksError):
    """This held rod is not at its height."""

    def __init__(self, rod):
        self.rod = rod

    def told(self):
        return "refused notheld"


class NoName(HooksError):
    """This is not a name for a web."""

    def __init__(self, name):
        self.name = name

    def told(self):
        return "refused noname"


class NoWeb(HooksError):
    """No web is kept by this name."""

    def __init__(self, name):
        self.name = name

    def told(self):
        return "refused noweb"


class NoBack(HooksError):
    """There is nothing to take back."""

    def told(self):
        return "refused noback"


class BadRow(HooksError):
    """The row of this number cannot be read."""

    def __init__(self, row):
        self.row = row

    def told(self):
        return "refused badrow"
