"""Plain volumes: what volumes mean, without a device."""

from segmentfs.errors import AlreadyExists, Busy, NoRoom, NotFound, NoTransaction, SegmentError
from segmentfs.names.handles import Handles
from segmentfs.names.paths import read_path
from segmentfs.plain.changes import (
    plain_create, plain_link, plain_mkdir, plain_rename, plain_rmdir, plain_symlink, plain_unlink)
from segmentfs.plain.files import (
    next_data_in, next_hole_in, punch_octets, read_octets, truncate_octets, write_octets)
from segmentfs.plain.nodes import PlainTree
from segmentfs.plain.questions import (
    plain_file_at, plain_readdir, plain_readlink, plain_rows, plain_stat, plain_walk)
from segmentfs.volume.files import write_pieces
from segmentfs.volume.ranges import (
    check_access, check_offset, check_reading, check_reserved, check_snapshot_name)


class PlainVolume:
    """A volume without a device."""

    def __init__(self, layout):
        self.layout = layout
        # A change makes another tree, so trees can be kept as they are for snapshots and transactions.
        self._tree = PlainTree(layout)
        self._handles = Handles()
        # The name and the tree of each snapshot.
        self._slots = [None, None, None]
        # The tree and the open files at the beginning of the open transaction.
        self._saved = None

    def mkdir(self, path):
        """Make a directory."""
        result = self._tree.fork()
        plain_mkdir(result, path)
        self._accept(result)

    def create(self, path):
        """Make a file, and return a handle for reading and writing it."""
        read_path(path)
        self._handles.check_free()
        result = self._tree.fork()
        number = plain_create(result, path)
        self._accept(result)
        return self._handles.acquire(number, "both")

    def symlink(self, target, path):
        """Make a symbolic link with the text `target`."""
        result = self._tree.fork()
        plain_symlink(result, target, path)
        self._accept(result)

    def link(self, path, new_path):
        """Give a file or a symbolic link a further name."""
        result = self._tree.fork()
        plain_link(result, path, new_path)
        self._accept(result)

    def unlink(self, path):
        """Remove a name of a file or of a symbolic link."""
        result = self._tree.fork()
        plain_unlink(result, path, self._handles.opened_numbers())
        self._accept(result)

    def rmdir(self, path):
        """Remove a directory without entries."""
        result = self._tree.fork()
        plain_rmdir(result, path)
        self._accept(result)

    def rename(self, path, new_path):
        """Give a node another name."""
        result = self._tree.fork()
        plain_rename(result, path, new_path, self._handles.opened_numbers())
        self._accept(result)

    def open_file(self, path, *, access="read"):
        """Open the file to which a path leads, and return a handle."""
        check_access(access)
        return self._handles.acquire(plain_file_at(self._tree, path), access)

    def close(self, handle):
        """Close a handle; the file is removed if it has no name and no other handle."""
        number = self._handles.free(handle).number
        if self._tree.node(number).links == 0 and number not in self._handles.opened_numbers():
            result = self._tree.fork()
            result.drop(number)
            self._tree = result

    def read(self, handle, at, count):
        """Return octets of a file from an offset on."""
        opened = self._handles.reading(handle)
        check_reading(at, count)
        return read_octets(self._tree.node(opened.number), self.layout.block_size, at, count)

    def write(self, handle, at, octets):
        """Write octets of a file from an offset on, and return how many were written."""
        opened = self._handles.writing(handle)
        check_offset(at)
        written = 0
        for offset, piece in write_pieces(self.layout, at, octets):
            result = self._tree.fork()
            try:
                write_octets(result.changed(opened.number), self.layout.block_size, offset, piece)
                self._accept(result)
            except SegmentError:
                if written == 0:
                    raise
                break
            written += len(piece)
        return written

    def truncate(self, handle, size):
        """Set the size of a file."""
        opened = self._handles.writing(handle)
        check_offset(size)
        result = self._tree.fork()
        truncate_octets(result.changed(opened.number), self.layout.block_size, size)
        self._accept(result)

    def punch(self, handle, at, count):
        """Make a hole of so many octets in a file."""
        opened = self._handles.writing(handle)
        check_offset(at)
        check_offset(count)
        result = self._tree.fork()
        punch_octets(result.changed(opened.number), self.layout.block_size, at, at + count)
        self._accept(result)

    def next_data(self, handle, at):
        """Return the first offset from this one on that lies in a data block, or None."""
        opened = self._handles.reading(handle)
        check_offset(at)
        return next_data_in(self._tree.node(opened.number), self.layout.block_size, at)

    def next_hole(self, handle, at):
        """Return the first offset from this one on that lies in a hole, or the size, or None."""
        opened = self._handles.reading(handle)
        check_offset(at)
        return next_hole_in(self._tree.node(opened.number), self.layout.block_size, at)

    def reserve(self, handle, blocks):
        """Reserve blocks for a file."""
        former = self._handles.writing(handle).reserved
        check_reserved(blocks)
        self._handles.reserve(handle, blocks)
        if not self._has_room(self._tree):
            self._handles.reserve(handle, former)
            raise NoRoom("so many blocks cannot be reserved")

    def fstat(self, handle):
        """Return the information about an open file."""
        return self._tree.info(self._handles.get(handle).number)

    def stat(self, path):
        """Return the information about the node at a path."""
        return plain_stat(self._tree, path, follow_last=True)

    def lstat(self, path):
        """Return the information about the node at a path, a link at its end not followed."""
        return plain_stat(self._tree, path, follow_last=False)

    def readlink(self, path):
        """Return the text of a symbolic link."""
        return plain_readlink(self._tree, path)

    def listdir(self, path):
        """Return the entries of a directory in the order of their names."""
        return plain_readdir(self._tree, path)

    def walk(self, path):
        """Return the ways and the information of the node at a path and of all nodes below it."""
        return plain_walk(self._tree, path)

    def begin(self):
        """Begin a transaction."""
        self.quiet()
        self._saved = (self._tree, self._handles.fork())

    def commit(self):
        """End the transaction, and keep its changes."""
        self._check_transaction()
        self._saved = None

    def abort(self):
        """End the transaction, and give up its changes."""
        self._check_transaction()
        self._tree, self._handles = self._saved
        self._saved = None

    def snapshot(self, name):
        """Take a snapshot."""
        check_snapshot_name(name)
        self.quiet()
        if name in self.snapshots():
            raise AlreadyExists(f"there is a snapshot {name}")
        if None not in self._slots:
            raise NoRoom("no slot is free")
        self._slots[self._slots.index(None)] = (name, self._tree)

    def drop(self, name):
        """Drop a snapshot."""
        check_snapshot_name(name)
        self.quiet()
        self._slots[self._slot_of(name)] = None

    def snapshots(self):
        """Return the names of the snapshots in the order of their slots."""
        return [slot[0] for slot in self._slots if slot is not None]

    def rows(self):
        """Return the rows of the whole tree."""
        return plain_rows(self._tree)

    def rows_in(self, name):
        """Return the rows of the tree of a snapshot."""
        check_snapshot_name(name)
        return plain_rows(self._slots[self._slot_of(name)][1])

    def quiet(self):
        """Stand for calls that change nothing here."""
        if self._saved is not None:
            raise Busy("a transaction is open")

    def used(self):
        """Return the number of blocks in use."""
        return self._tree.used()

    def fork(self):
        """Return a plain volume in the same state."""
        twin = PlainVolume(self.layout)
        twin._tree = self._tree
        twin._handles = self._handles.fork()
        twin._slots = list(self._slots)
        if self._saved is not None:
            twin._saved = (self._saved[0], self._saved[1].fork())
        return twin

    def remounted(self):
        """Return the plain volume as it is mounted behind a crash that loses nothing."""
        twin = PlainVolume(self.layout)
        twin._tree = self._tree.fork() if self._saved is None else self._saved[0].fork()
        twin._slots = list(self._slots)
        numbers = twin._tree.numbers()
        for number in numbers:
            if twin._tree.node(number).links == 0:
                twin._tree.drop(number)
        return twin

    def _accept(self, result):
        """Make the result of a change the tree, if there is room."""
        if not self._has_room(result):
            raise NoRoom("the volume would need too many blocks")
        self._tree = result

    def _has_room(self, result):
        """Tell whether there is room for a result; while a snapshot stands, a plain volume does not ask."""
        if self.snapshots():
            return True
        reserved = 0
        for opened in self._handles.files:
            if opened is not None:
                reserved += max(0, opened.reserved - result.block_total(opened.number))
        return result.used() + reserved <= self.layout.limit

    def _slot_of(self, name):
        """Return the slot that has a name."""
        for slot, taken in enumerate(self._slots):
            if taken is not None and taken[0] == name:
                return slot
        raise NotFound(f"there is no snapshot {name}")

    def _check_transaction(self):
        """Raise an error unless a transaction is open."""
        if self._saved is None:
            raise NoTransaction("no transaction is open")
