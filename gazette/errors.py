"""The errors that the functions and classes of the package raise."""


class GazetteError(ValueError):
    """The base class of all errors of the package."""


class NotReadOnce(GazetteError):
    """A voting rule names a chamber twice, or contains the vote of the premier."""


class NotInOrder(GazetteError):
    """Edits are not in order."""


class Conflicting(GazetteError):
    """The edits of one chamber are not compatible."""


class TotalsDiffer(GazetteError):
    """The amounts before and after a change have different sums."""


class BadSeats(GazetteError):
    """The seats of a charter are not a valid seating."""


class BadAmounts(GazetteError):
    """The appropriations of a charter do not have one item for each node."""


class BadPremier(GazetteError):
    """The premier of a charter is none of its members."""


class NotUnsafe(GazetteError):
    """A walk is not an unsafe cycle."""


class RecordFull(GazetteError):
    """The record of a gazette would have too many entries."""


class NothingToUndo(GazetteError):
    """No batch is left that could be taken back."""


class BadDependency(GazetteError):
    """The entry type with this number has dependencies that cannot be."""

    def __init__(self, number):
        super().__init__(f"bad dependency at number {number}")
        self.number = number


class MissingDependency(GazetteError):
    """The entry type with this number is not based on all writers of its component."""

    def __init__(self, number):
        super().__init__(f"missing dependency at number {number}")
        self.number = number


class BadRule(GazetteError):
    """The entry type with this number has a rule that does not fit the charter."""

    def __init__(self, number):
        super().__init__(f"bad rule at number {number}")
        self.number = number


class SittingOutOfOrder(GazetteError):
    """The entry with this number is earlier than the one before it."""

    def __init__(self, number):
        super().__init__(f"sitting out of order at entry {number}")
        self.number = number


class NotDetermined(GazetteError):
    """The entry with this number is not determined."""

    def __init__(self, number):
        super().__init__(f"entry {number} is not determined")
        self.number = number


class BadEntry(GazetteError):
    """The entry with this number is bad, for the reason that is told."""

    def __init__(self, number, reason):
        super().__init__(f"entry {number} is bad: {reason}")
        self.number = number
        self.reason = reason


class UnsafeCharter(GazetteError):
    """A charter has an unsafe cycle."""

    def __init__(self, cycle):
        super().__init__(f"unsafe cycle {cycle}")
        self.cycle = cycle


class CircularRecord(GazetteError):
    """A record has a circle."""

    def __init__(self, circle):
        super().__init__(f"circle {circle}")
        self.circle = circle


class TooManyOpen(GazetteError):
    """So many entries of a record are not determined that their statuses are not listed."""

    def __init__(self, count):
        super().__init__(f"{count} entries are not determined")
        self.count = count
