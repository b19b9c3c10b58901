"""The faults of the tables of a log, and of the blocks to which they lead."""

from segmentfs.device.block import NODE
from segmentfs.geometry.layout import place_of, segment_of
from segmentfs.log.logs import live_addresses, payload_at
from segmentfs.nodes.superblock import SUPERBLOCK_ID
from segmentfs.room.segments import live_counts


def table_fault(log):
    """Return the first fault of the tables of a log and its number, or None."""
    return _head_fault(log) or _queue_fault(log) or _address_fault(log) or _room_fault(log) or _slot_fault(log)


def block_fault(log):
    """Return the first fault of the needed blocks and its number, or None."""
    for address in live_addresses(log):
        payload = payload_at(log, address)
        if payload is None:
            return ("a needed block is no payload", address)
        if payload[0] == NODE and max(payload[1]) > log.layout.last_id:
            return ("a block does not fit the layout", address)
    return None


def _head_fault(log):
    """Return the fault of the head or of the place."""
    if log.head >= log.layout.segments:
        return ("no such head", log.head)
    if log.place > log.layout.segment_blocks:
        return ("no such place", log.place)
    return None


def _queue_fault(log):
    """Return the fault of the queue."""
    for segment in log.queue:
        if segment >= log.layout.segments:
            return ("no such segment", segment)
    writable = [log.head] + log.queue
    for segment in writable:
        if writable.count(segment) > 1:
            return ("a segment is free twice", segment)
    return None


def _address_fault(log):
    """Return the fault of a single live address."""
    addresses = live_addresses(log)
    for address in addresses:
        if _is_misplaced(log, address):
            return ("a live block is misplaced", address)
    idents = _idents_by_address(log)
    for address in addresses:
        if len(idents[address]) > 1:
            return ("an address is used twice", address)
    return None


def _is_misplaced(log, address):
    """Tell whether no live block can lie at the address."""
    segment = segment_of(log.layout, address)
    place = place_of(log.layout, address)
    if segment is None or place == 0 or segment in log.queue:
        return True
    return segment == log.head and place >= log.place


def _idents_by_address(log):
    """Return the different ids that have each live address, in whichever tables."""
    idents = {}
    for table in [log.present] + log.slots:
        if table is None:
            continue
        for ident, address in enumerate(table):
            if address != 0:
                known = idents.setdefault(address, [])
                if ident not in known:
                    known.append(ident)
    return idents


def _room_fault(log):
    """Return the fault of tables that leave no room."""
    total = len(live_addresses(log))
    if total > log.layout.limit:
        return ("too many blocks", total)
    empty = [segment for segment, live in enumerate(live_counts(log)) if live == 0 and segment != log.head]
    if not empty:
        return ("no segment can be free", 0)
    return None


def _slot_fault(log):
    """Return the fault of two snapshots that cannot be told apart."""
    earlier = []
    for slot in log.slots:
        if slot is None:
            continue
        address = slot[SUPERBLOCK_ID]
        if address != 0 and address in earlier:
            return ("two snapshots share a superblock", address)
        earlier.append(address)
    return None
