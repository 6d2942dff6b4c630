"""The refusals: each class stands straight under GainError."""


class GainError(ValueError):
    """What every refusal stands under."""


class BadNumber(GainError):
    """A text that no fraction is written as."""


class Taken(GainError):
    """A place of that name is there already."""


class NoPlace(GainError):
    """A place that isn't there, or two that are one."""


class NoTie(GainError):
    """A number that no tie has."""


class AsItIs(GainError):
    """A tie that is so already."""


class NoEnds(GainError):
    """No ends are set."""


class Over(GainError):
    """The last hour has gone by."""


class TooMuch(GainError):
    """An amount beyond what may be sent, kept or drawn."""


class Gaining(GainError):
    """A round gains; ties is such a round."""

    def __init__(self, ties):
        GainError.__init__(self, "a round gains")
        # A copy, as a list that is handed in isn't kept to be read later.
        self.ties = list(ties) if isinstance(ties, list) else ties


class NotSoMuch(GainError):
    """More is wished than can be brought; most is what can."""

    def __init__(self, most):
        GainError.__init__(self, "not so much can be brought")
        self.most = most


class Short(GainError):
    """A day's wishes can't all be met; share is how much of them can."""

    def __init__(self, share):
        GainError.__init__(self, "the wishes can't all be met")
        self.share = share


class Lacking(GainError):
    """At a place more goes than comes."""

    def __init__(self, place):
        GainError.__init__(self, "more goes than comes at a place")
        self.place = place


class BadRow(GainError):
    """A row of a net's text that isn't well written or can't stand there."""

    def __init__(self, row):
        GainError.__init__(self, "a row of the net's text is wrong")
        self.row = row


class BadSheet(GainError):
    """A row of a sheet that isn't well written."""

    def __init__(self, row):
        GainError.__init__(self, "a row of the sheet is wrong")
        self.row = row
