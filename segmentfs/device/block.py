"""Blocks: tuples of a kind, a sequence number, a rank and a body."""

COMMIT = 1
MOVE = 2
DATA = 3
NODE = 4
PART = 5


def is_payload(block):
    """Tell whether the block is a payload block."""
    return block is not None and block[0] in (DATA, NODE)


def payload_of(block):
    """Return the payload of the block, or None if it is no payload block."""
    if not is_payload(block):
        return None
    return (block[0], block[3])


def stamped(payload, sequence, rank):
    """Return the block with this payload and this stamp."""
    return (payload[0], sequence, rank, payload[1])
