"""New logs, and logs that are recovered from what a device holds."""

from segmentfs.device.block import COMMIT, MOVE, PART, is_payload
from segmentfs.errors import NoCheckpoint
from segmentfs.geometry.layout import address_at, region_start
from segmentfs.log.checkpoints import read_numbers, write_checkpoint
from segmentfs.log.logs import Log, enter_next_segment, listed_in, take_batch


def new_log(device):
    """Return a new log on a blank device, after its first checkpoint."""
    log = Log(device)
    log.queue = list(range(1, device.layout.segments))
    write_checkpoint(log)
    return log


def checkpoint_in(device, region):
    """Return the sequence number and the numbers of the checkpoint in a region, or None if it holds none."""
    start = region_start(device.layout, region)
    first = device.read(start)
    numbers = []
    for rank in range(device.layout.region_blocks):
        block = device.read(start + rank)
        if block is None or block[:3] != (PART, first[1], rank):
            return None
        numbers.extend(block[3])
    if read_numbers(device.layout, numbers) is None:
        return None
    return (first[1], numbers)


def batch_at(device, segment, place, sequence):
    """Return the summary of the batch that stands whole there, or None."""
    layout = device.layout
    if segment >= layout.segments or place >= layout.segment_blocks:
        return None
    start = address_at(layout, segment, place)
    summary = device.read(start)
    if summary is None or summary[0] not in (COMMIT, MOVE) or summary[1:3] != (sequence, 0):
        return None
    count = len(listed_in(summary))
    if place + count >= layout.segment_blocks:
        return None
    for rank in range(1, count + 1):
        block = device.read(start + rank)
        if not is_payload(block) or block[1:3] != (sequence, rank):
            return None
    return summary


def recover(device):
    """Return the log that a device holds; nothing is written."""
    region = _region_to_take(device)
    sequence, numbers = checkpoint_in(device, region)
    present, slots, head, place, queue = read_numbers(device.layout, numbers)
    log = Log(device)
    log.present = present
    log.slots = slots
    log.head = head
    log.place = place
    log.queue = queue
    log.last_sequence = sequence
    while _take_next_batch(log):
        pass
    # A batch or a checkpoint that is not whole has used up its sequence number, too.
    log.last_sequence = max([block[1] for address, block in device.written_blocks()])
    log.region = region
    return log


def mount_log(device):
    """Return the log that a device holds, after a checkpoint."""
    log = recover(device)
    write_checkpoint(log)
    return log


def _region_to_take(device):
    """Return the region that holds the newest checkpoint."""
    first = checkpoint_in(device, 0)
    second = checkpoint_in(device, 1)
    if first is None and second is None:
        raise NoCheckpoint("no region holds a whole checkpoint")
    if first is None or (second is not None and second[0] > first[0]):
        return 1
    return 0


def _take_next_batch(log):
    """Take the next batch behind the place of the log, and tell whether there was one."""
    sequence = log.last_sequence + 1
    summary = batch_at(log.device, log.head, log.place, sequence)
    # A move always begins a segment of the queue, so what stands behind other batches is none.
    if summary is None or summary[0] != COMMIT:
        if not log.queue:
            return False
        summary = batch_at(log.device, log.queue[0], 0, sequence)
        if summary is None:
            return False
        enter_next_segment(log)
    take_batch(log, summary)
    return True
