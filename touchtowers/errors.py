"""The errors of the package."""


class TowerError(ValueError):
    """A value is not what it should be."""


class InvalidPrime(TowerError):
    """A value is none of the eleven primes."""


class InvalidWord(TowerError):
    """A value is no word, or no branch."""


class InvalidPoint(TowerError):
    """A value is no point, or no letter."""


class InvalidRow(TowerError):
    """A value is no row."""


class InvalidTable(TowerError):
    """A value is no table, or does not fit one."""


class InvalidPlane(TowerError):
    """A value is no polynomial in x and y."""


class InvalidCurve(TowerError):
    """A value is no curve."""


class InvalidWeights(TowerError):
    """A value is no weights."""


class InvalidOrders(TowerError):
    """A value is not what generators or orders look like."""


class InvalidPaper(TowerError):
    """A value is no paper for what it is put to."""


class InvalidTree(TowerError):
    """A value is no tree."""


class InvalidPlait(TowerError):
    """A value is no plait."""


class InvalidOperation(TowerError):
    """Each value is valid, but what is asked of them cannot be done."""


class ParseError(TowerError):
    """A text cannot be read, from an index on."""

    def __init__(self, index):
        self.index = index


# The errors below keep what they take as it is. They make no text of it: that
# could fail, as for an integer of many thousand digits.


class InvalidCount(IndexError):
    """A number is no integer, or outside of its bounds."""

    def __init__(self, value):
        self.value = value


class UnknownName(KeyError):
    """Nothing has this name."""

    def __init__(self, name):
        self.name = name


class NothingToUndo(RuntimeError):
    """There are fewer changes to take back, or to do again."""

    def __init__(self, wanted):
        self.wanted = wanted


class TooMany(OverflowError):
    """A limit is passed."""

    def __init__(self, limit):
        self.limit = limit


class Refused(ArithmeticError):
    """A change would break what is promised."""

    def __init__(self, reason):
        self.reason = reason
