"""The errors of the package: what they are called, and what they hold."""


class SeriesError(ValueError):
    """A value that was passed is not what it must be."""


class InvalidProduct(SeriesError):
    def __init__(self, value):
        self.value = value


class InvalidLevel(SeriesError):
    def __init__(self, value):
        self.value = value


class InvalidSum(SeriesError):
    def __init__(self, value):
        self.value = value


class InvalidKind(SeriesError):
    def __init__(self, value):
        self.value = value


class InvalidStep(SeriesError):
    def __init__(self, value):
        self.value = value


class InvalidRest(SeriesError):
    def __init__(self, value):
        self.value = value


class InvalidDivisor(SeriesError):
    def __init__(self, value):
        self.value = value


class InvalidMany(SeriesError):
    def __init__(self, value):
        self.value = value


class InvalidRow(SeriesError):
    def __init__(self, value):
        self.value = value


class InvalidNumber(SeriesError):
    def __init__(self, value):
        self.value = value


class InvalidText(SeriesError):
    def __init__(self, value):
        self.value = value


class InvalidPrime(SeriesError):
    def __init__(self, value):
        self.value = value


class BadRecord(SeriesError):
    def __init__(self, position):
        self.position = position


class BadText(SeriesError):
    def __init__(self, position):
        self.position = position


class InvalidClaim(SeriesError):
    def __init__(self, value):
        self.value = value


class InvalidClearing(SeriesError):
    def __init__(self, value):
        self.value = value


class InvalidCommand(SeriesError):
    def __init__(self, value):
        self.value = value


class InvalidDeeds(SeriesError):
    def __init__(self, position):
        self.position = position


class InvalidDivisors(SeriesError):
    def __init__(self, value):
        self.value = value


class InvalidEnd(SeriesError):
    def __init__(self, value):
        self.value = value


class InvalidExponent(SeriesError):
    def __init__(self, value):
        self.value = value


class InvalidFold(SeriesError):
    def __init__(self, value):
        self.value = value


class InvalidForm(SeriesError):
    def __init__(self, value):
        self.value = value


class InvalidMost(SeriesError):
    def __init__(self, value):
        self.value = value


class InvalidOrders(SeriesError):
    def __init__(self, value):
        self.value = value


class InvalidPart(SeriesError):
    def __init__(self, value):
        self.value = value


class InvalidPartition(SeriesError):
    def __init__(self, value):
        self.value = value


class InvalidParts(SeriesError):
    def __init__(self, value):
        self.value = value


class InvalidPlace(SeriesError):
    def __init__(self, value):
        self.value = value


class InvalidPosition(SeriesError):
    def __init__(self, value):
        self.value = value


class InvalidProducts(SeriesError):
    def __init__(self, value):
        self.value = value


class InvalidRatio(SeriesError):
    def __init__(self, value):
        self.value = value


class InvalidSection(SeriesError):
    def __init__(self, value):
        self.value = value


class InvalidTarget(SeriesError):
    def __init__(self, value):
        self.value = value


class InvalidTerms(SeriesError):
    def __init__(self, value):
        self.value = value


class InvalidThing(SeriesError):
    def __init__(self, value):
        self.value = value


class InvalidThings(SeriesError):
    def __init__(self, value):
        self.value = value


class InvalidTotal(SeriesError):
    def __init__(self, value):
        self.value = value


class InvalidWeight(SeriesError):
    def __init__(self, value):
        self.value = value


class InvalidWord(SeriesError):
    def __init__(self, value):
        self.value = value


class MissingError(LookupError):
    """Something is asked for that is not there."""


class UnknownName(MissingError):
    def __init__(self, value):
        self.value = value


class StateError(RuntimeError):
    """Values are right each by itself, but cannot go together here."""


class NotFitting(StateError):
    """Something that has to fit a level does not."""


class CommandFailed(StateError):
    def __init__(self, position):
        self.position = position


class DividedByNought(StateError):
    """A ratio would be divided by 0."""


class NameTaken(StateError):
    def __init__(self, name):
        self.name = name


class NoProduct(StateError):
    """A kind is counted by no product."""


class NotCarried(StateError):
    """A product has no placed numbers that primes carry."""


class NotMultiple(StateError):
    def __init__(self, prime):
        self.prime = prime


class NotOne(StateError):
    """The first place of the placed numbers is not 1."""


class NothingToRedo(StateError):
    """No deed was taken back."""


class NothingToUndo(StateError):
    """There is no deed to take back."""


class UnlikeKinds(StateError):
    """Things that must have one kind have several."""


class LimitError(ArithmeticError):
    """An answer would be beyond a limit."""


class TooMany(LimitError):
    def __init__(self, what, limit):
        self.what = what
        self.limit = limit
