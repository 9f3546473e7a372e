"""The errors of the package: what went wrong is told by the class and by its fields."""


class StripError(ValueError):
    """The base of all errors of the package."""


class BadNumber(StripError):
    """A parameter is no integer, or one out of its bounds."""

    def __init__(self, part):
        self.part = part


class BadName(StripError):
    """A parameter cannot name a file."""

    def __init__(self, part):
        self.part = part


class BadContents(StripError):
    """A parameter cannot be the contents of a file."""

    def __init__(self, part):
        self.part = part


class BadDisk(StripError):
    """A parameter is no Disk."""

    def __init__(self, part):
        self.part = part


class BadLayout(StripError):
    """A parameter is no Layout, or tells none."""

    def __init__(self, part):
        self.part = part


class BadDeeds(StripError):
    """A parameter is no History, no deed, no record, or no list of such."""

    def __init__(self, part):
        self.part = part


class BadPrices(StripError):
    """A parameter is no Prices, or no table of numbers."""

    def __init__(self, part):
        self.part = part


class BadStore(StripError):
    """A parameter is no State."""

    def __init__(self, part):
        self.part = part


class Misfit(StripError):
    """The parameters are right, each by itself, but this part does not fit the others."""

    def __init__(self, part):
        self.part = part


class Missing(StripError):
    """Nothing by this value is here. Only the classes below are raised."""

    def __init__(self, value):
        self.value = value


class NoFile(Missing):
    """No file has this serial or this name."""

    def __init__(self, value):
        self.value = value


class NoView(Missing):
    """No view that stands has this number."""

    def __init__(self, value):
        self.value = value


class Twice(StripError):
    """This value stands already."""

    def __init__(self, value):
        self.value = value


class TooMany(StripError):
    """There are more of what is told than the most that there may be."""

    def __init__(self, what, most):
        self.what = what
        self.most = most


class Impossible(StripError):
    """There is no such answer, and the paper shows it."""

    def __init__(self, paper):
        self.paper = paper


class BadText(StripError):
    """A text cannot be read: the item of this index cannot stand there, or is missing."""

    def __init__(self, item):
        self.item = item


class Out(StripError):
    """The power is out."""
