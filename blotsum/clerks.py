"""Clerks: each has a sum, looks closer at it, adds and strikes parts, and goes back."""

from blotsum.entries import is_entry, is_number_among, is_spot
from blotsum.errors import Clash, NoEntry, NoFigures, NoFilling, NoSpot, NoSum, NothingLeft, TooFew, TooMany
from blotsum.sums import MOST_PARTS, entries_of, how_many, is_sum, narrowed
from blotsum.texts import sum_text


def has_spot(page, entry, spot):
    """Whether a sum has an entry of this number, with a spot of this number."""
    entries = entries_of(page)
    return is_number_among(entry, len(entries)) and is_number_among(spot, len(entries[entry]))


def with_seen(page, entry, spot, figures):
    """The sum with just those figures at a spot that are among the seen ones, perhaps with none."""
    entries = entries_of(page)
    spots = list(entries[entry])
    spots[spot] = "".join([figure for figure in spots[spot] if figure in figures])
    entries[entry] = tuple(spots)
    return tuple(entries[:-1]), entries[-1]


def settled_spots(page, narrow):
    """The spots that are not clear in a sum, and are so in the narrowed one, as (entry, spot, figure)."""
    told = []
    for at, (wide, close) in enumerate(zip(entries_of(page), entries_of(narrow))):
        for spot, figures in enumerate(close):
            if len(figures) == 1 and len(wide[spot]) > 1:
                told.append((at, spot, figures))
    return told


class Clerk:
    """A sum, and what was done to it.

    As sums are never changed, it is enough to keep those that were there before, and those that were taken back.
    """

    def __init__(self, page):
        if not is_sum(page):
            raise NoSum("a clerk is given a sum")
        self.now = page
        self.before = []
        self.undone = []

    def go_on(self, page):
        """Have another sum from now on; what was taken back can't be done again."""
        self.before.append(self.now)
        self.now = page
        self.undone = []

    def look(self, entry, spot, figures):
        """Look closer at a spot: it can be just those of its figures that are seen."""
        if not has_spot(self.now, entry, spot):
            raise NoSpot(entry, spot)
        if not is_spot(figures):
            raise NoFigures("the seen figures are no spot")
        page = with_seen(self.now, entry, spot, figures)
        if how_many(page) == 0:
            raise Clash(entry, spot)
        self.go_on(page)

    def add(self, part):
        """Add a part behind the others."""
        if not is_entry(part):
            raise NoEntry("a part is an entry")
        parts, total = self.now
        if len(parts) >= MOST_PARTS:
            raise TooMany("there are as many parts as a sum can have")
        self.go_on(((*parts, part), total))

    def strike(self, entry):
        """Strike the part of a number."""
        parts, total = self.now
        if not is_number_among(entry, len(parts)):
            raise NoSpot(entry, None)
        if len(parts) == 1:
            raise TooFew("this is the only part")
        self.go_on(((*parts[:entry], *parts[entry + 1:]), total))

    def back(self):
        """Take back the last that was done."""
        if self.before == []:
            raise NothingLeft("there is nothing to take back")
        self.undone.append(self.now)
        self.now = self.before.pop()

    def again(self):
        """Do again what was taken back last."""
        if self.undone == []:
            raise NothingLeft("there is nothing to do again")
        self.before.append(self.now)
        self.now = self.undone.pop()

    def page(self):
        """The sum."""
        return self.now

    def many(self):
        """How many fillings the sum has."""
        return how_many(self.now)

    def settled(self):
        """The spots that are not clear and where one figure stands in all fillings."""
        try:
            narrow = narrowed(self.now)
        except NoFilling:
            return []
        return settled_spots(self.now, narrow)

    def __len__(self):
        return len(self.now[0])

    def __str__(self):
        return str(sum_text(self.now))

    def __eq__(self, other):
        return isinstance(other, Clerk) and self.now == other.now
