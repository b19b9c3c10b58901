"""Checkpoints: what a log knows, written into a region."""

from segmentfs.device.block import PART
from segmentfs.geometry.layout import region_start, segment_of
from segmentfs.log.logs import live_addresses
from segmentfs.plain.octets import filled, pieces

SLOTS = 3


def checkpoint_numbers(log):
    """Return the numbers of a checkpoint of the log as it is now."""
    numbers = log.present[1:]
    for slot in log.slots:
        numbers.extend(_slot_numbers(log.layout, slot))
    numbers.extend([log.head, log.place, len(log.queue)])
    numbers.extend(filled(log.queue, log.layout.segments))
    return filled(numbers, log.layout.region_blocks * log.layout.fan)


def read_numbers(layout, numbers):
    """Return the present table, the slots, the head, the place and the queue, or None if this is no checkpoint."""
    size = layout.last_id + 1
    slots = []
    for slot in range(SLOTS):
        start = layout.last_id + slot * size
        taken = numbers[start]
        addresses = numbers[start + 1:start + size]
        if taken > 1 or (taken == 0 and any(addresses)):
            return None
        slots.append([0] + addresses if taken == 1 else None)
    start = layout.last_id + SLOTS * size
    head, place, count = numbers[start:start + 3]
    queue_end = start + 3 + count
    if count > layout.segments or any(numbers[queue_end:]):
        return None
    return ([0] + numbers[:layout.last_id], slots, head, place, numbers[start + 3:queue_end])


def write_checkpoint(log):
    """Make a checkpoint."""
    # What the checkpoint tells must be sure before it can be read.
    log.device.barrier()
    log.queue = log.queue + _segments_to_free(log)
    log.last_sequence = log.last_sequence + 1
    log.region = 1 - log.region
    start = region_start(log.layout, log.region)
    for rank, numbers in enumerate(pieces(checkpoint_numbers(log), log.layout.fan)):
        log.device.write(start + rank, (PART, log.last_sequence, rank, tuple(numbers)))
    log.device.barrier()
    counts = log.counts
    counts.checkpoints += 1
    counts.checkpoint_blocks += log.layout.region_blocks
    counts.barriers += 2


def _slot_numbers(layout, slot):
    """Return the numbers of a slot: whether it is taken, and its addresses."""
    if slot is None:
        return [0] * (layout.last_id + 1)
    return [1] + slot[1:]


def _segments_to_free(log):
    """Return the segments without live addresses that are not free yet, ascending, without the head."""
    kept = [segment_of(log.layout, address) for address in live_addresses(log)]
    kept.append(log.head)
    kept.extend(log.queue)
    return [segment for segment in range(log.layout.segments) if segment not in kept]
