"""All refusals of the package.

Their texts are fixed ones, as a number that is refused may be too long to be written.
"""


class BlotError(ValueError):
    """A refusal."""


class AskedError(BlotError):
    """Something was asked for that there is not."""


class ToldError(BlotError):
    """Something was told that can't be taken."""


class NoDivisor(AskedError):
    """A divisor that is not from 2 to 99."""

    def __init__(self, divisor):
        super().__init__("a divisor is a whole number from 2 to 99")
        self.divisor = divisor


class NoFilling(AskedError):
    """There is no filling, or what was handed in is none."""


class NoPaper(AskedError):
    """There is a filling, so no paper shows that there is none."""


class NoSum(ToldError):
    """What was told is no sum."""


class NoEntry(ToldError):
    """What was told is no entry."""


class NoSpot(ToldError):
    """There is no such spot; spot is None where a part was to be struck."""

    def __init__(self, entry, spot):
        super().__init__("there is no such spot")
        self.entry = entry
        self.spot = spot


class NoFigures(ToldError):
    """The figures that were told are no spot."""


class Clash(ToldError):
    """What was seen at a spot leaves no filling."""

    def __init__(self, entry, spot):
        super().__init__("no filling is left with these figures")
        self.entry = entry
        self.spot = spot


class TooMany(ToldError):
    """There are as many parts as a sum can have."""


class TooFew(ToldError):
    """A sum can't be without any part."""


class NothingLeft(ToldError):
    """There is nothing to take back, or to do again."""


class NoText(ToldError):
    """The text is not written as it must be."""


class NoRow(ToldError):
    """What was told to the desk is no row."""


class NoNumber(IndexError):
    """There is nothing of this number; among is how many there are."""

    def __init__(self, number, among):
        super().__init__("there is nothing of this number")
        self.number = number
        self.among = among
