"""Segments: their live blocks, their ages, and which of them can be cleaned."""

from segmentfs.geometry.layout import segment_of
from segmentfs.log.logs import live_addresses


def live_counts(log):
    """Return the number of live blocks of each segment."""
    counts = [0] * log.layout.segments
    for address in live_addresses(log):
        segment = segment_of(log.layout, address)
        if segment is not None:
            counts[segment] += 1
    return counts


def ages(log):
    """Return the age of each segment."""
    newest = [0] * log.layout.segments
    for address, block in log.device.written_blocks():
        segment = segment_of(log.layout, address)
        if segment is not None:
            newest[segment] = max(newest[segment], block[1])
    return [log.last_sequence - sequence for sequence in newest]


def segment_rows(log):
    """Return the condition, the number of live blocks and the age of each segment."""
    rows = []
    for segment, (live, age) in enumerate(zip(live_counts(log), ages(log))):
        rows.append((_condition(log, segment), live, age))
    return rows


def candidates(log):
    """Return the segments that can be cleaned, ascending."""
    return [segment for segment, live in enumerate(live_counts(log))
            if 0 < live < log.layout.payload and segment not in log.queue]


def _condition(log, segment):
    """Return the condition of a segment as a word."""
    if segment in log.queue:
        return "free"
    if segment == log.head:
        return "head"
    return "used"
