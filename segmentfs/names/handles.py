"""Handles: small numbers that stand for open files."""

from segmentfs.errors import BadHandle, TooManyOpen

HANDLES = 16


class OpenFile:
    """What a handle stands for."""

    def __init__(self, number, access, reserved=0):
        self.number = number
        self.access = access
        self.reserved = reserved


class Handles:
    """All handles of a volume."""

    def __init__(self):
        self.files = [None] * HANDLES

    def check_free(self):
        """Raise an error if no handle is free."""
        if None not in self.files:
            raise TooManyOpen("no handle is free")

    def acquire(self, number, access):
        """Give the least free handle to a file."""
        self.check_free()
        handle = self.files.index(None)
        self.files[handle] = OpenFile(number, access)
        return handle

    def get(self, handle):
        """Return the open file of a handle."""
        if not 0 <= handle < HANDLES or self.files[handle] is None:
            # The text leaves the handle out: Python writes no integer of more than 4300 digits.
            raise BadHandle("no file is open with this handle")
        return self.files[handle]

    def reading(self, handle):
        """Return the open file of a handle that allows reading."""
        opened = self.get(handle)
        if opened.access == "write":
            raise BadHandle("the handle is open for writing alone")
        return opened

    def writing(self, handle):
        """Return the open file of a handle that allows writing."""
        opened = self.get(handle)
        if opened.access == "read":
            raise BadHandle("the handle is open for reading alone")
        return opened

    def free(self, handle):
        """Make a handle free, and return the open file that it stood for."""
        opened = self.get(handle)
        self.files[handle] = None
        return opened

    def reserve(self, handle, blocks):
        """Set the number of blocks that are reserved with a handle."""
        opened = self.writing(handle)
        opened.reserved = blocks

    def opened_numbers(self):
        """Return the numbers of the open files, ascending."""
        return sorted({opened.number for opened in self.files if opened is not None})

    def fork(self):
        """Return other handles with the same contents."""
        twin = Handles()
        twin.files = [_copy_of_file(opened) for opened in self.files]
        return twin


def _copy_of_file(opened):
    """Return another open file with the same fields, or None for None."""
    if opened is None:
        return None
    return OpenFile(opened.number, opened.access, opened.reserved)
