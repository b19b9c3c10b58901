"""Logs: payloads that are appended to a device in batches."""

from segmentfs.device.block import COMMIT, MOVE, payload_of, stamped
from segmentfs.geometry.layout import address_at
from segmentfs.log.counts import Counts
from segmentfs.log.tables import commit_to_table, copy_of_table, empty_table, move_in_table, slots_after


class Log:
    """What a log knows."""

    def __init__(self, device):
        self.device = device
        self.layout = device.layout
        self.present = empty_table(device.layout)
        self.slots = [None, None, None]
        self.head = 0
        self.place = 0
        self.queue = []
        self.last_sequence = 0
        # So the first checkpoint goes into the region 0.
        self.region = 1
        self.counts = Counts()

    def fork(self):
        """Return a log in the same state, on a fork of the device."""
        twin = Log(self.device.fork())
        twin.present = list(self.present)
        twin.slots = [copy_of_table(slot) for slot in self.slots]
        twin.head = self.head
        twin.place = self.place
        twin.queue = list(self.queue)
        twin.last_sequence = self.last_sequence
        twin.region = self.region
        twin.counts = self.counts.fork()
        return twin


def payload_at(log, address):
    """Return the payload of the block that is read at the address, or None."""
    return payload_of(log.device.read(address))


def contents_of(log, table):
    """Return the payloads to which a table leads, by their ids."""
    contents = {}
    for ident, address in enumerate(table):
        payload = None if address == 0 else payload_at(log, address)
        if payload is not None:
            contents[ident] = payload
    return contents


def live_addresses(log):
    """Return the live addresses, ascending."""
    addresses = list(log.present)
    for slot in log.slots:
        if slot is not None:
            addresses.extend(slot)
    return sorted({address for address in addresses if address != 0})


def append_commit(log, ids, payloads, used, action):
    """Write a commit, and tell whether it was written."""
    if log.place + 1 + len(ids) > log.layout.segment_blocks:
        if not log.queue or len(ids) > log.layout.payload:
            return False
        enter_next_segment(log)
    _write_batch(log, (COMMIT, log.last_sequence + 1, 0, (tuple(ids), tuple(used), action)), payloads)
    counts = log.counts
    counts.commits += 1
    counts.commit_blocks += 1 + len(payloads)
    return True


def append_move(log, addresses):
    """Write a move, and tell whether it was written."""
    payloads = [payload_at(log, address) for address in addresses]
    if not log.queue or len(addresses) > log.layout.payload or None in payloads:
        return False
    enter_next_segment(log)
    _write_batch(log, (MOVE, log.last_sequence + 1, 0, tuple(addresses)), payloads)
    counts = log.counts
    counts.moves += 1
    counts.move_blocks += 1 + len(payloads)
    return True


def sync_log(log):
    """Make a barrier."""
    log.device.barrier()
    counts = log.counts
    counts.barriers += 1


def enter_next_segment(log):
    """Make the first segment of the queue the head."""
    log.head = log.queue[0]
    log.queue = log.queue[1:]
    log.place = 0


def listed_in(summary):
    """Return the ids or the addresses that a summary lists."""
    if summary[0] == COMMIT:
        return summary[3][0]
    return summary[3]


def take_batch(log, summary):
    """Change what the log knows as the batch at the place of the head tells."""
    start = address_at(log.layout, log.head, log.place) + 1
    if summary[0] == COMMIT:
        ids, used, action = summary[3]
        log.present = commit_to_table(log.present, start, ids, used)
        log.slots = slots_after(log.slots, log.present, action)
    else:
        log.slots = [None if slot is None else move_in_table(slot, start, summary[3]) for slot in log.slots]
        log.present = move_in_table(log.present, start, summary[3])
    log.place = log.place + 1 + len(listed_in(summary))
    log.last_sequence = summary[1]


def _write_batch(log, summary, payloads):
    """Write a batch at the place of the head, the summary first."""
    start = address_at(log.layout, log.head, log.place)
    log.device.write(start, summary)
    for rank, payload in enumerate(payloads, start=1):
        log.device.write(start + rank, stamped(payload, summary[1], rank))
    take_batch(log, summary)
