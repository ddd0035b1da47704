"""The errors that the program raises."""


def _copied(given):
    """A list copied through and through; any other value as it is."""
    if isinstance(given, list):
        return [_copied(entry) for entry in given]
    return given


class WatchError(ValueError):
    """The base class of all errors of the program."""


class BadName(WatchError):
    """A text that is no name, no known name, or a name that is used already."""

    def __init__(self, name):
        self.name = name


class BadWorld(WatchError):
    """A world that is not as it must be."""


class NoSuchSum(WatchError):
    """A triple that is no sum of the world."""

    def __init__(self, asked):
        self.asked = asked


class BadText(WatchError):
    """A text that is no written form."""

    def __init__(self, text):
        self.text = text


class BadNet(WatchError):
    """A net, a painting or facts that name what does not exist."""


class NoHeights(WatchError):
    """No heights fit: the ring is a low ring."""

    def __init__(self, ring):
        self.ring = _copied(ring)


class OtherWorld(WatchError):
    """Two things that belong to different worlds."""


class NoRun(WatchError):
    """No run fits the box: the balance shows it."""

    def __init__(self, balance):
        self.balance = _copied(balance)


class OutOfRange(WatchError):
    """A value that is not from the least to the greatest one."""

    def __init__(self, least, greatest):
        self.least = least
        self.greatest = greatest


class BadList(WatchError):
    """A list that has too few entries, or numbers that do not go together."""


class NotFitting(WatchError):
    """The first or the second table does not fit."""

    def __init__(self, number):
        self.number = number


class TooFar(WatchError):
    """Two runs with too great a distance."""

    def __init__(self, distance):
        self.distance = distance


class BadSetup(WatchError):
    """A setup that is not as it must be."""


class BadItem(WatchError):
    """An item that is not as it must be."""

    def __init__(self, item):
        self.item = item


class BadLine(WatchError):
    """A line of a text that cannot be read."""

    def __init__(self, number):
        self.number = number


class BadForm(WatchError):
    """A part of a question that is not as it must be."""

    def __init__(self, part):
        self.part = part


class BadQuestion(WatchError):
    """A text that is no written question from this token on."""

    def __init__(self, place):
        self.place = place


class TooManyCases(WatchError):
    """A question with too many cases."""

    def __init__(self, many):
        self.many = many


class BadMachine(WatchError):
    """A machine that is not as it must be, or a letter that it does not have."""


class BadRule(WatchError):
    """A rule that is not as it must be, or a letter that it does not have."""


class TooManySets(WatchError):
    """A machine with too many sets of known states."""

    def __init__(self, many):
        self.many = many


class TooManyLots(WatchError):
    """Sums with too many least lots."""

    def __init__(self, many):
        self.many = many


class BadMeter(WatchError):
    """A meter that is not as it must be, or a point that it does not have."""


class BadTrace(WatchError):
    """A trace that is not as it must be, or an event that it does not have."""


class BadCauses(WatchError):
    """Causes that are not as they must be."""


class WouldLose(WatchError):
    """A promised sum that would be lost."""

    def __init__(self, asked):
        self.asked = asked


class NothingToUndo(WatchError):
    """No deed stands."""
