"""Making room for commits, and cleaning."""

from segmentfs.log.checkpoints import write_checkpoint
from segmentfs.room.filling import fill
from segmentfs.room.policies import order_candidates
from segmentfs.room.segments import candidates, live_counts


def has_room(log, count):
    """Tell whether there is room for a commit of so many blocks."""
    if log.place + 1 + count <= log.layout.segment_blocks or len(log.queue) >= 2:
        return True
    # A head without live blocks becomes free by the next checkpoint, so a free segment stays for the cleaner.
    return len(log.queue) >= 1 and live_counts(log)[log.head] == 0


def make_room(log, count, *, policy="greedy"):
    """Make room for a commit of so many blocks, and tell whether there is room then."""
    if has_room(log, count):
        return True
    write_checkpoint(log)
    for _ in range(log.layout.segments):
        if has_room(log, count) or not fill(log, order_candidates(log, policy)):
            break
    return has_room(log, count)


def clean_log(log, passes, *, policy="greedy"):
    """Clean with at most so many fillings, and return the number of free segments."""
    write_checkpoint(log)
    for _ in range(passes):
        if len(candidates(log)) < 2 or not log.queue or not fill(log, order_candidates(log, policy)):
            break
    return len(log.queue)
