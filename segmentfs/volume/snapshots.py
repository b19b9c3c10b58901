"""Snapshots of a volume: tables of the log that have names in the superblock."""

from segmentfs.errors import AlreadyExists, NoRoom, NotFound
from segmentfs.log.logs import contents_of
from segmentfs.nodes.nodes import Nodes
from segmentfs.volume.memory import check_quiet, check_room, fits_into_batch, take_result, write_batch
from segmentfs.volume.ranges import check_snapshot_name

# The actions of a commit that take and drop the slot 0; those of the other slots follow.
TAKE_SLOT = 1
DROP_SLOT = 4


def take_snapshot(memory, name):
    """Take a snapshot of the nodes in memory."""
    check_snapshot_name(name)
    check_quiet(memory)
    names = memory.nodes.superblock.names
    if name in names:
        raise AlreadyExists(f"there is a snapshot {name}")
    if None not in names:
        raise NoRoom("no slot is free")
    slot = names.index(None)
    result = memory.nodes.fork()
    result.set_snapshot_name(slot, name)
    fits = fits_into_batch(memory, result)
    check_room(memory, result, fits)
    take_result(memory, result, fits)
    write_batch(memory, TAKE_SLOT + slot)


def drop_snapshot(memory, name):
    """Drop a snapshot."""
    check_snapshot_name(name)
    check_quiet(memory)
    slot = slot_of(memory, name)
    result = memory.nodes.fork()
    result.set_snapshot_name(slot, None)
    take_result(memory, result, fits_into_batch(memory, result))
    write_batch(memory, DROP_SLOT + slot)


def slot_of(memory, name):
    """Return the slot that has a name."""
    names = memory.nodes.superblock.names
    if name not in names:
        raise NotFound(f"there is no snapshot {name}")
    return names.index(name)


def snapshot_nodes(memory, name):
    """Return the nodes that a snapshot shows."""
    check_snapshot_name(name)
    slot = slot_of(memory, name)
    return Nodes(memory.log.layout, contents_of(memory.log, memory.log.slots[slot]))
