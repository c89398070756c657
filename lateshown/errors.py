"""The errors of the package, one class for each kind of failure."""

from lateshown.plain import tupled


class NoLine(LookupError):
    """A LINE is asked for that there is not."""

    def __init__(self, line):
        self.line = tupled(line)


class NoPlace(LookupError):
    """A place is asked for that there is not."""

    def __init__(self, place):
        self.place = place


class NoStream(LookupError):
    """A stream is asked for that there is not."""

    def __init__(self, name):
        self.name = name


class NoNumber(LookupError):
    """One of several is asked for by a number that none of them has."""

    def __init__(self, number):
        self.number = number


class NothingDone(LookupError):
    """Nothing is there to be taken back."""


class NoPlan(LookupError):
    """A plan is asked for that there is not."""

    def __init__(self, name):
        self.name = name


class NoFrame(LookupError):
    """A plan has no frame that could be lifted."""

    def __init__(self, name):
        self.name = name


class BadText(ValueError):
    """Nothing has this text."""


class NoLeaf(ValueError):
    """A DEED writes to a stream that is not a leaf."""

    def __init__(self, name):
        self.name = name


class OtherLines(ValueError):
    """Two Programs have not the same LINEs."""


class OtherWrites(ValueError):
    """Programs have not the same WRITES."""


class NoRun(ValueError):
    """LINEs are no RUN, or none that can be shown."""


class NoOutput(ValueError):
    """An ORDER is no OUTPUT."""


class NoStart(ValueError):
    """LINEs are no start of an OUTPUT from a place on."""

    def __init__(self, place):
        self.place = place


class NoWish(ValueError):
    """A pair of LINEs is no wish of the Program."""

    def __init__(self, wish):
        self.wish = tupled(wish)


class NoSpot(ValueError):
    """A pair is no SPOT of the Program."""

    def __init__(self, spot):
        self.spot = tupled(spot)


class Outside(ValueError):
    """A plan is not within its frame."""

    def __init__(self, name):
        self.name = name


class BadLine(ValueError):
    """A line of a text is wrong, or lacks."""

    def __init__(self, number):
        self.number = number


class Stopped(ValueError):
    """A deed of an attempt was refused."""

    def __init__(self, number, raised, value):
        self.number = number
        self.raised = raised
        self.value = tupled(value)
