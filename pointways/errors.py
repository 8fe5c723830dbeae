"""The refusals: one class for each, all straight under PointError."""


class PointError(ValueError):
    """Any refusal."""


class NoWeb(PointError):
    """What was handed in makes no web."""


class NoText(PointError):
    """What was handed in is not written so."""


class NoNumbers(PointError):
    """What was handed in is no such list of numbers."""


class NoLot(PointError):
    """What was handed in is no lot of the web."""


class NoPoint(PointError):
    """What was handed in is no point of the web."""


class NoPointing(PointError):
    """What was handed in is no pointing of the web."""


class NoEars(PointError):
    """What was handed in is no ear row of the web."""


class NoFixed(PointError):
    """What was handed in doesn't fix ties of the web."""


class NoNumber(PointError):
    """What was handed in is no such number."""


class Unlike(PointError):
    """The two pointings have other ins."""


class NotOver(PointError):
    """A pointing is not so many times over."""


class TooMuch(PointError):
    """The web has more ties than are taken."""


# The five below copy the list that they are made of: it is the maker's, who may change it later.
# Their own words are plain texts for the same reason.


class Parted(PointError):
    """The web is not joined; lot is its first cluster."""

    def __init__(self, lot):
        PointError.__init__(self, "the web is not joined")
        self.lot = list(lot)


class Shut(PointError):
    """Each tie that crosses lot is fixed and leads out of it."""

    def __init__(self, lot):
        PointError.__init__(self, "no tie can lead into a lot")
        self.lot = list(lot)


class Thin(PointError):
    """Too few ties cross lot."""

    def __init__(self, lot):
        PointError.__init__(self, "too few ties cross a lot")
        self.lot = list(lot)


class Barred(PointError):
    """The tie alone crosses lot."""

    def __init__(self, tie, lot):
        PointError.__init__(self, "one tie alone crosses a lot")
        self.tie = tie
        self.lot = list(lot)


class NoIns(PointError):
    """The ins can't be met; the points of part show it, in the way that word says."""

    def __init__(self, word, part):
        PointError.__init__(self, "some points show that the ins can't be met")
        self.word = word
        self.part = list(part)
