"""Blocks written as octets, and read back."""

from segmentfs.device.block import COMMIT, DATA, MOVE, NODE, PART
from segmentfs.geometry.layout import SUMMARY_HEAD, parts_of
from segmentfs.image.octets import number_octets, number_of
from segmentfs.plain.octets import filled, pieces

LETTERS = (83, 71, 70, 83)
SPARE_OCTETS = 16
MOST_ACTION = 6


def block_octets(layout, block):
    """Return the octets of the spare area and of the body of a block."""
    if block is None:
        return [0] * (SPARE_OCTETS + layout.block_size)
    kind, sequence, rank, body = block
    spare = [kind] + number_octets(sequence, 6) + number_octets(rank, 2)
    return filled(spare, SPARE_OCTETS) + filled(_body_octets(layout, kind, body), layout.block_size)


def read_block(layout, octets):
    """Return the block with these octets, or None if it is blank or damaged."""
    body = _read_body(layout, octets[0], octets[SPARE_OCTETS:])
    if body is None:
        return None
    block = (octets[0], number_of(octets[1:7]), number_of(octets[7:9]), body)
    # A block is written in one way alone, so any other octet, also in a filling, is damage.
    if block_octets(layout, block) != list(octets):
        return None
    return block


def is_damaged(layout, octets):
    """Tell whether the octets are damaged."""
    return any(octets) and read_block(layout, octets) is None


def _body_octets(layout, kind, body):
    """Return the octets of a body, without those that fill it up."""
    if kind == COMMIT:
        ids, used, action = body
        head = _summary_head(COMMIT, len(ids)) + [action]
        return filled(head, SUMMARY_HEAD) + filled(_pairs(ids), 2 * layout.payload) + _bits(layout, used)
    if kind == MOVE:
        return filled(_summary_head(MOVE, len(body)), SUMMARY_HEAD) + _pairs(body)
    if kind == DATA:
        return list(body)
    return _pairs(body)


def _read_body(layout, kind, octets):
    """Return the body of a block of this kind, or None if these octets cannot be one."""
    if kind == COMMIT:
        return _read_commit(layout, octets)
    if kind == MOVE:
        return _read_listed(layout, octets)
    if kind == DATA:
        return tuple(octets)
    if kind in (NODE, PART):
        return _read_pairs(octets)
    return None


def _read_commit(layout, octets):
    """Return the body of a commit, or None if the octets tell too many ids or another action."""
    ids = _read_listed(layout, octets)
    action = octets[7]
    if ids is None or action > MOST_ACTION:
        return None
    return (ids, _read_bits(layout, octets[SUMMARY_HEAD + 2 * layout.payload:]), action)


def _read_listed(layout, octets):
    """Return the ids or addresses that a summary lists, or None if they are too many."""
    count = number_of(octets[5:7])
    if count > layout.payload:
        return None
    return _read_pairs(octets[SUMMARY_HEAD:SUMMARY_HEAD + 2 * count])


def _summary_head(kind, count):
    """Return the octets with which a summary of this kind begins."""
    return list(LETTERS) + [kind] + number_octets(count, 2)


def _pairs(numbers):
    """Return two octets for each of the numbers."""
    octets = []
    for number in numbers:
        octets.extend(number_octets(number, 2))
    return octets


def _read_pairs(octets):
    """Return the numbers of which each has two octets."""
    return tuple([number_of(pair) for pair in pieces(octets, 2)])


def _bits(layout, used):
    """Return the octets with a bit for each id, which is 1 if the id is in use."""
    in_use = set(used)
    octets = [0] * parts_of(layout.last_id, 8)
    for place in range(layout.last_id):
        if place + 1 in in_use:
            octets[place // 8] += 1 << (place % 8)
    return octets


def _read_bits(layout, octets):
    """Return the ids whose bits are 1, ascending."""
    return tuple([place + 1 for place in range(layout.last_id) if (octets[place // 8] >> (place % 8)) & 1 == 1])
