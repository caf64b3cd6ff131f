"""All errors: each derives directly from LockError, and keeps what it is made with."""


class LockError(ValueError):
    """What all errors of this package are; made, like those without a field, with nothing."""

    def __init__(self):
        """Takes nothing, so that only the errors with a field take something."""


class BadText(LockError):
    """No text of a range: the number of the first part that has no form, -1 for no string."""

    def __init__(self, index):
        self.index = index


class BadEntry(LockError):
    """No entry: the first part that is none."""

    def __init__(self, part):
        self.part = part


class BadBook(LockError):
    """No entries of a book: the index of the first wrong one, -1 for no tuple of so many."""

    def __init__(self, index):
        self.index = index


class BadLine(LockError):
    """No text of lines: the number of the first wrong line, 0 for no string."""

    def __init__(self, number):
        self.number = number


class BadQuestion(LockError):
    """No question: the first part that is none."""

    def __init__(self, part):
        self.part = part


class BadTask(LockError):
    """No task: the first part that is none."""

    def __init__(self, part):
        self.part = part


class BadStep(LockError):
    """No tuple of steps: the number of the first wrong one, -1 for no tuple."""

    def __init__(self, number):
        self.number = number


class TooMany(LockError):
    """More than there may be: how many there may be at most."""

    def __init__(self, most):
        self.most = most


class NotFitting(LockError):
    """An axiom is not so: its source."""

    def __init__(self, source):
        self.source = source


class NotGiven(LockError):
    """A given is not so: its literal."""

    def __init__(self, literal):
        self.literal = literal


class NotFirst(LockError):
    """Something is ahead: the first place of the order at which this is not ruled out."""

    def __init__(self, place):
        self.place = place


class NoFeatures(LockError):
    """No lot of features of the entry."""


class NoEntry(LockError):
    """No entry of the book has this name and version."""


class NotRight(LockError):
    """No right installation."""


class NotThere(LockError):
    """The package is not installed."""


class NotClosed(LockError):
    """No installation in which all that is needed is there, and nothing that is barred."""


class NoSource(LockError):
    """No source of an axiom."""


class NoStand(LockError):
    """No tuple of a flag for each atom."""


class NoGivens(LockError):
    """No lot of literals of unlike atoms of the order."""


class NoLiteral(LockError):
    """No literal of an atom of the order."""


class NoPaper(LockError):
    """No paper against the givens."""


class NoSources(LockError):
    """No lot of sources of the task."""


class NoName(LockError):
    """No name."""


class NoNumber(LockError):
    """No integer within the bounds."""


class NotEntry(LockError):
    """No Entry."""


class NotQuestion(LockError):
    """No Question."""


class NothingDone(LockError):
    """No edit is left that could be taken back."""


class NoText(LockError):
    """No string."""


class NoStart(LockError):
    """Nothing that can be started."""


class NoStop(LockError):
    """Nothing that can be stopped."""


class NotSafe(LockError):
    """What runs would lack something, or break a bar."""


class NoDeed(LockError):
    """No deed."""


class NoContents(LockError):
    """No dict with a string for each triple."""


class NoMirrors(LockError):
    """No tuple of mirrors."""


class NoManifest(LockError):
    """No manifest that has what is asked for."""


class NotFetched(LockError):
    """No mirror tells the right text: of which name and version."""

    def __init__(self, pair):
        self.pair = pair


class NoBuild(LockError):
    """The recipe told no text: for which package."""

    def __init__(self, name):
        self.name = name


class Ringed(LockError):
    """Packages need each other in a ring: their names."""

    def __init__(self, names):
        self.names = names


class NoMachine(LockError):
    """No number of a machine."""


class NoRollout(LockError):
    """There is no rollout."""
