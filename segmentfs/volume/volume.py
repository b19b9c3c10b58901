"""Volumes: file systems on devices."""

from segmentfs.checker.check import check
from segmentfs.device.device import Device
from segmentfs.differences.compare import differences, walk_list
from segmentfs.errors import InvalidImage
from segmentfs.log.checkpoints import write_checkpoint
from segmentfs.log.logs import append_commit, sync_log
from segmentfs.log.recovery import mount_log, new_log
from segmentfs.names.changes import create, link, mkdir, rmdir, symlink, unlink
from segmentfs.names.paths import read_path
from segmentfs.names.questions import file_at, readdir, readlink, stat, stat_of
from segmentfs.names.renaming import rename
from segmentfs.names.ways import node_at
from segmentfs.nodes.nodes import new_nodes
from segmentfs.room.making import clean_log
from segmentfs.room.need import need_of
from segmentfs.room.segments import segment_rows
from segmentfs.trees.files import next_data, next_hole, read_file
from segmentfs.volume.files import punch_node, reserved_blocks, truncate_node
from segmentfs.volume.memory import (
    Memory, accept, begin_transaction, check_quiet, end_transaction, flush, remove_all_unused, remove_unused,
    reserve_blocks, waiting_ids, write_octets)
from segmentfs.volume.ranges import (
    check_access, check_offset, check_passes, check_policy, check_reading, check_reserved)
from segmentfs.volume.rows import rows_of
from segmentfs.volume.snapshots import drop_snapshot, snapshot_nodes, take_snapshot


def new_device(layout):
    """Return the device of a new volume."""
    log = new_log(Device(layout))
    blocks = new_nodes(layout).store.blocks
    idents = sorted(blocks)
    append_commit(log, idents, [blocks[ident] for ident in idents], idents, 0)
    write_checkpoint(log)
    return log.device


def mount(device, *, cut=None):
    """Return the volume on a device."""
    fault = check(device)
    if fault is not None:
        part, what, number = fault
        raise InvalidImage(part, what, number)
    own = _sure_copy(device)
    if cut is not None:
        own.cut_after(cut)
    memory = Memory(mount_log(own))
    remove_all_unused(memory)
    return Volume(memory)


class Volume:
    """A mounted volume."""

    def __init__(self, memory):
        self._memory = memory

    def mkdir(self, path):
        """Make a directory."""
        result = self._memory.nodes.fork()
        mkdir(result, path)
        accept(self._memory, result)

    def symlink(self, target, path):
        """Make a symbolic link with the text `target`."""
        result = self._memory.nodes.fork()
        symlink(result, target, path)
        accept(self._memory, result)

    def link(self, path, new_path):
        """Give a file or a symbolic link a further name."""
        result = self._memory.nodes.fork()
        link(result, path, new_path)
        accept(self._memory, result)

    def unlink(self, path):
        """Remove a name of a file or of a symbolic link."""
        result = self._memory.nodes.fork()
        unlink(result, path, self._memory.handles.opened_numbers())
        accept(self._memory, result)

    def rmdir(self, path):
        """Remove a directory without entries."""
        result = self._memory.nodes.fork()
        rmdir(result, path)
        accept(self._memory, result)

    def rename(self, path, new_path):
        """Give a node another name."""
        result = self._memory.nodes.fork()
        rename(result, path, new_path, self._memory.handles.opened_numbers())
        accept(self._memory, result)

    def create(self, path):
        """Make a file, and return a handle for reading and writing it."""
        read_path(path)
        self._memory.handles.check_free()
        result = self._memory.nodes.fork()
        number = create(result, path)
        accept(self._memory, result)
        return self._memory.handles.acquire(number, "both")

    def open_file(self, path, *, access="read"):
        """Open the file to which a path leads, and return a handle."""
        check_access(access)
        number = file_at(self._memory.nodes, path)
        return self._memory.handles.acquire(number, access)

    def close(self, handle):
        """Close a handle."""
        opened = self._memory.handles.free(handle)
        remove_unused(self._memory, opened.number)

    def read(self, handle, at, count):
        """Return octets of a file from an offset on."""
        opened = self._memory.handles.reading(handle)
        check_reading(at, count)
        nodes = self._memory.nodes
        return read_file(nodes.store, nodes.get(opened.number), at=at, count=count)

    def write(self, handle, at, octets):
        """Write octets of a file from an offset on, and return how many were written."""
        opened = self._memory.handles.writing(handle)
        check_offset(at)
        return write_octets(self._memory, opened.number, at, octets)

    def truncate(self, handle, size):
        """Set the size of a file."""
        opened = self._memory.handles.writing(handle)
        check_offset(size)
        result = self._memory.nodes.fork()
        truncate_node(result, opened.number, size)
        accept(self._memory, result)

    def punch(self, handle, at, count):
        """Make a hole of so many octets in a file."""
        opened = self._memory.handles.writing(handle)
        check_offset(at)
        check_offset(count)
        result = self._memory.nodes.fork()
        punch_node(result, opened.number, at, count)
        accept(self._memory, result)

    def next_data(self, handle, at):
        """Return the first offset from this one on that lies in a data block, or None."""
        opened = self._memory.handles.reading(handle)
        check_offset(at)
        nodes = self._memory.nodes
        return next_data(nodes.store, nodes.get(opened.number), at)

    def next_hole(self, handle, at):
        """Return the first offset from this one on that lies in a hole, or the size, or None."""
        opened = self._memory.handles.reading(handle)
        check_offset(at)
        nodes = self._memory.nodes
        return next_hole(nodes.store, nodes.get(opened.number), at)

    def reserve(self, handle, blocks):
        """Reserve blocks for a file."""
        self._memory.handles.writing(handle)
        check_reserved(blocks)
        reserve_blocks(self._memory, handle, blocks)

    def fstat(self, handle):
        """Return the information about an open file."""
        return stat_of(self._memory.nodes, self._memory.handles.get(handle).number)

    def stat(self, path):
        """Return the information about the node at a path."""
        return stat(self._memory.nodes, path)

    def lstat(self, path):
        """Return the information about the node at a path, a link at its end not followed."""
        return stat(self._memory.nodes, path, follow_last=False)

    def readlink(self, path):
        """Return the text of a symbolic link."""
        return readlink(self._memory.nodes, path)

    def listdir(self, path):
        """Return the entries of a directory in the order of their names."""
        return readdir(self._memory.nodes, path)

    def walk(self, path):
        """Return the ways and the information of the node at a path and of all nodes below it."""
        nodes = self._memory.nodes
        return walk_list(nodes, node_at(nodes, read_path(path), follow_last=False))

    def rows(self):
        """Return the rows of the whole tree."""
        return rows_of(self._memory.nodes)

    def rows_in(self, name):
        """Return the rows of the tree of a snapshot."""
        return rows_of(snapshot_nodes(self._memory, name))

    def sync(self):
        """Make everything sure."""
        check_quiet(self._memory)
        flush(self._memory)
        sync_log(self._memory.log)

    def checkpoint(self):
        """Write a checkpoint behind everything."""
        check_quiet(self._memory)
        flush(self._memory)
        write_checkpoint(self._memory.log)

    def clean(self, *, policy="greedy", passes=1):
        """Clean the log, and return the number of free segments."""
        check_policy(policy)
        check_passes(passes)
        check_quiet(self._memory)
        flush(self._memory)
        return clean_log(self._memory.log, passes, policy=policy)

    def set_policy(self, policy):
        """Make room by this policy from now on."""
        check_policy(policy)
        memory = self._memory
        memory.policy = policy

    def begin(self):
        """Begin a transaction."""
        begin_transaction(self._memory)

    def commit(self):
        """End the transaction, and write its changes as one batch."""
        end_transaction(self._memory)
        flush(self._memory)

    def abort(self):
        """End the transaction, and give up its changes."""
        memory = self._memory
        memory.nodes, memory.handles = end_transaction(memory)

    def snapshot(self, name):
        """Take a snapshot."""
        take_snapshot(self._memory, name)

    def drop(self, name):
        """Drop a snapshot."""
        drop_snapshot(self._memory, name)

    def snapshots(self):
        """Return the names of the snapshots in the order of their slots."""
        return [name for name in self._memory.nodes.superblock.names if name is not None]

    def stat_in(self, name, path):
        """Return the information about the node at a path in a snapshot."""
        return stat(snapshot_nodes(self._memory, name), path)

    def list_in(self, name, path):
        """Return the entries of a directory in a snapshot."""
        return readdir(snapshot_nodes(self._memory, name), path)

    def readlink_in(self, name, path):
        """Return the text of a symbolic link in a snapshot."""
        return readlink(snapshot_nodes(self._memory, name), path)

    def read_in(self, name, path, at, count):
        """Return octets of a file in a snapshot from an offset on."""
        nodes = snapshot_nodes(self._memory, name)
        check_reading(at, count)
        return read_file(nodes.store, nodes.get(file_at(nodes, path)), at=at, count=count)

    def differences(self, first, second):
        """Compare two states, each the present tree (None) or that of a snapshot."""
        return differences(self._nodes_in(first), self._nodes_in(second))

    def room(self):
        """Return how much room there is and what takes it up."""
        memory = self._memory
        blocks = memory.nodes.store.blocks
        return {
            "limit": memory.log.layout.limit,
            "need": need_of(memory.log, blocks),
            "used": len(blocks),
            "reserved": reserved_blocks(memory.nodes, memory.handles),
            "free": len(memory.log.queue),
            "waiting": len(waiting_ids(memory.log, blocks)),
        }

    def segment_report(self):
        """Return the condition, the number of live blocks and the age of each segment."""
        return segment_rows(self._memory.log)

    def statistics(self):
        """Return the counts of the log."""
        return self._memory.log.counts.as_row()

    def pending(self):
        """Return how many writes a crash would choose from."""
        return self._memory.log.device.pending()

    def was_cut(self):
        """Tell whether the power was cut."""
        return self._memory.log.device.was_cut()

    def cut_after(self, count):
        """Let so many more commands of the device take place ahead of a power cut."""
        self._memory.log.device.cut_after(count)

    def crash(self, kept, *, torn=()):
        """Return the device that a crash leaves."""
        return self._memory.log.device.left(kept, torn=torn)

    def unmount(self):
        """Close and write everything, and return a device that holds the volume."""
        if self._memory.saved is not None:
            self.abort()
        for handle, opened in enumerate(list(self._memory.handles.files)):
            if opened is not None:
                self.close(handle)
        remove_all_unused(self._memory)
        flush(self._memory)
        write_checkpoint(self._memory.log)
        return _sure_copy(self._memory.log.device)

    def _nodes_in(self, name):
        """Return the nodes of the present tree for None, otherwise of a snapshot."""
        if name is None:
            return self._memory.nodes
        return snapshot_nodes(self._memory, name)


def _sure_copy(device):
    """Return a device that holds, as sure blocks, what a device reads."""
    layout = device.layout
    return Device(layout, [device.read(address) for address in range(layout.device_blocks)])
