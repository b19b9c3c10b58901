"""The checker: the first fault of what a device reads."""

from segmentfs.checker.files import files_fault
from segmentfs.checker.names import names_fault
from segmentfs.checker.tables import block_fault, table_fault
from segmentfs.errors import NoCheckpoint
from segmentfs.log.logs import contents_of
from segmentfs.log.recovery import recover
from segmentfs.nodes.nodes import Nodes

# From here on no volume goes on: the fortieth power of 2.
SEQUENCES_END = 1099511627776


def check(device):
    """Return the part, the fault and the number of the first fault of a device, or None."""
    try:
        log = recover(device)
    except NoCheckpoint:
        return ("log", "no whole checkpoint", 0)
    # All further parts rely on those that come ahead of them.
    return _log_fault(log) or _contents_fault(log, "present", log.present) or _snapshot_fault(log)


def _log_fault(log):
    """Return the fault of the log, or None."""
    if log.last_sequence >= SEQUENCES_END:
        return ("log", "sequence numbers are used up", 0)
    return _within("log", table_fault(log) or block_fault(log))


def _contents_fault(log, part, table):
    """Return the fault of the contents of a table, or None."""
    blocks = contents_of(log, table)
    fault = files_fault(log.layout, blocks)
    if fault is None:
        fault = names_fault(Nodes(log.layout, blocks))
    return _within(part, fault)


def _snapshot_fault(log):
    """Return the fault of the slots, of their names, or of the contents of a slot, or None."""
    names = Nodes(log.layout, contents_of(log, log.present)).superblock.names
    fault = _slot_fault(log, names)
    if fault is not None:
        return _within("snapshots", fault)
    for slot, table in enumerate(log.slots):
        if table is not None:
            fault = _contents_fault(log, f"snapshot {slot}", table)
            if fault is not None:
                return fault
    return None


def _slot_fault(log, names):
    """Return the fault of the names of the slots and its number, or None."""
    for slot, table in enumerate(log.slots):
        if (table is None) != (names[slot] is None):
            return ("a slot and its name do not agree", slot)
    for slot, name in enumerate(names):
        if name is not None and name in names[:slot]:
            return ("two slots have one name", slot)
    return None


def _within(part, fault):
    """Return a fault as one of a part, None for None."""
    if fault is None:
        return None
    return (part, fault[0], fault[1])
