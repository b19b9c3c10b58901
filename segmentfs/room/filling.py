"""Fillings: a free segment is filled with live blocks of other segments."""

from segmentfs.geometry.layout import segment_of
from segmentfs.log.checkpoints import write_checkpoint
from segmentfs.log.logs import append_move, live_addresses
from segmentfs.room.segments import candidates


def victims(log, order):
    """Return the candidates in the order in which they are emptied."""
    found = candidates(log)
    chosen = []
    for segment in list(order) + found:
        if segment in found and segment != log.head and segment not in chosen:
            chosen.append(segment)
    if log.head in found:
        chosen.append(log.head)
    return chosen


def cargo(log, order):
    """Return the addresses of the blocks that are moved."""
    live = live_addresses(log)
    addresses = []
    for victim in victims(log, order):
        addresses.extend([address for address in live if segment_of(log.layout, address) == victim])
    return addresses[:log.layout.payload]


def fill(log, order):
    """Fill a free segment, and tell whether this was done."""
    addresses = cargo(log, order)
    # A move is not written where no segment is free.
    if not addresses or not append_move(log, addresses):
        return False
    write_checkpoint(log)
    return True
