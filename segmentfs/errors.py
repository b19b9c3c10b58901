"""The errors of the package."""


class SegmentError(ValueError):
    """The base class of all errors of the package."""


class InvalidImage(SegmentError):
    """An image or a device holds no sound volume."""

    def __init__(self, part, fault, number):
        # The text leaves the number out: Python writes no integer of more than 4300 digits.
        super().__init__(f"{part}: {fault}")
        self.part = part
        self.fault = fault
        self.number = number


class InvalidFormat(SegmentError):
    """Three sizes are no layout."""


class NoCheckpoint(SegmentError):
    """No region of a device holds a checkpoint."""


class NotFound(SegmentError):
    """There is nothing of this name."""


class AlreadyExists(SegmentError):
    """The name is taken already."""


class NotDirectory(SegmentError):
    """A directory is needed here."""


class IsDirectory(SegmentError):
    """A directory cannot stand here."""


class NotEmpty(SegmentError):
    """The directory has entries."""


class InvalidPath(SegmentError):
    """The string is no path."""


class InvalidMove(SegmentError):
    """The directory cannot be moved or removed in this way."""


class NotLink(SegmentError):
    """A symbolic link is needed here."""


class NameTooLong(SegmentError):
    """The path or one of its names is too long."""


class LinkLoop(SegmentError):
    """Too many symbolic links are followed along one path."""


class TooManyNames(SegmentError):
    """The node has as many names as a node may have."""


class NotAllowed(SegmentError):
    """A directory gets no second name."""


class FileTooLarge(SegmentError):
    """The file would have too many octets."""


class NoRoom(SegmentError):
    """The volume has no room for this."""


class BadHandle(SegmentError):
    """The handle is not open, or not for this."""


class TooManyOpen(SegmentError):
    """No handle is free."""


class Busy(SegmentError):
    """This cannot be done now."""


class NoTransaction(SegmentError):
    """No transaction is open."""


class TransactionTooLarge(SegmentError):
    """The transaction would not fit into one batch."""


class OutOfRange(SegmentError):
    """An argument is not within its range."""


class InvalidName(SegmentError):
    """The string is no name of a snapshot."""
