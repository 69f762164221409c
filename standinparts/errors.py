"""The errors of the library: each holds the one value that it is made from."""


class PartsError(ValueError):
    """The base of all errors but the last four of this file."""


class BadAllowance(PartsError):
    """An entry that is no allowance, or is there already; None where there is no list of them."""

    def __init__(self, index):
        self.index = index


class BadPlace(PartsError):
    """An entry that is no place, or has a word that is there already; None for the whole."""

    def __init__(self, index):
        self.index = index


class BadCount(PartsError):
    """A part that is no word, or whose number of units is no count."""

    def __init__(self, part):
        self.part = part


class BadDate(PartsError):
    """A value that is no date."""

    def __init__(self, date):
        self.date = date


class BadMany(PartsError):
    """A value that is no number of things."""

    def __init__(self, many):
        self.many = many


class BadList(PartsError):
    """A value that is no list of parts, or no dict of them."""

    def __init__(self, value):
        self.value = value


class BadStock(PartsError):
    """A value that is no stock."""

    def __init__(self, value):
        self.value = value


class BadAllowances(PartsError):
    """A value that is no book of allowances."""

    def __init__(self, value):
        self.value = value


class RingOfLists(PartsError):
    """The word of a list that would be put within itself."""

    def __init__(self, word):
        self.word = word


class BadRule(PartsError):
    """What is wrong about a rule."""

    def __init__(self, what):
        self.what = what


class BadEvent(PartsError):
    """A value that is no event, or comes too early."""

    def __init__(self, event):
        self.event = event


class BadEvents(PartsError):
    """The index of an event that is none, or comes too early."""

    def __init__(self, index):
        self.index = index


class BadShare(PartsError):
    """The word of a place with a share, where there must be none."""

    def __init__(self, word):
        self.word = word


class BadWait(PartsError):
    """A value that is no wait."""

    def __init__(self, wait):
        self.wait = wait


class BadEither(PartsError):
    """An entry that is no either-or; None for the whole."""

    def __init__(self, index):
        self.index = index


class BadChoice(PartsError):
    """A value that is no choice."""

    def __init__(self, choice):
        self.choice = choice


class BadNumber(PartsError):
    """A value that is no number of things that is taken here."""

    def __init__(self, number):
        self.number = number


class BadMenu(PartsError):
    """An entry that cannot stand on a menu; None for the whole."""

    def __init__(self, index):
        self.index = index


class BadText(PartsError):
    """The index of a row that has no right form."""

    def __init__(self, index):
        self.index = index


class BadPart(PartsError):
    """A value that is no part, or stands for no part."""

    def __init__(self, part):
        self.part = part


class BadLine(PartsError):
    """A row that a console does not know."""

    def __init__(self, line):
        self.line = line


class Lacking(PartsError):
    """A set of parts of which there are too few."""

    def __init__(self, few):
        self.few = few


class UnknownPlace(KeyError):
    """A value that is no word of a place."""

    def __init__(self, word):
        self.word = word


class UnknownList(KeyError):
    """A value that is no word of a list."""

    def __init__(self, word):
        self.word = word


class TooMany(OverflowError):
    """There is more of something than the limit."""

    def __init__(self, limit):
        self.limit = limit


class NothingToUndo(RuntimeError):
    """There is no step that could be taken back."""

    def __init__(self, index):
        self.index = index
