"""The octets of the files of a plain volume: data blocks and holes.

A node that is changed here belongs to one tree alone; `size` is the size of a block.
"""

from segmentfs.errors import FileTooLarge
from segmentfs.geometry.layout import parts_of
from segmentfs.trees.files import MOST_OCTETS


def read_octets(node, size, at, count):
    """Return at most so many octets of a file from an offset on."""
    end = min(at + count, node.size)
    octets = []
    for number in range(at // size, parts_of(end, size)):
        start = number * size
        octets.extend(_octets_of_block(node, size, number)[max(at - start, 0):end - start])
    return octets


def write_octets(node, size, at, octets):
    """Write octets of a file from an offset on."""
    end = at + len(octets)
    if end > MOST_OCTETS:
        raise FileTooLarge(f"a file has at most {MOST_OCTETS} octets")
    if not octets:
        return
    for number in range(at // size, parts_of(end, size)):
        start = number * size
        low = max(at, start)
        high = min(end, start + size)
        changed = _octets_of_block(node, size, number)
        changed[low - start:high - start] = octets[low - at:high - at]
        node.blocks[number] = tuple(changed)
    node.size = max(node.size, end)


def truncate_octets(node, size, new_size):
    """Set the size of a file."""
    if new_size < node.size:
        _clear(node, size, new_size, node.size)
    node.size = new_size


def punch_octets(node, size, start, end):
    """Make a hole from one offset up to another one."""
    if start < min(end, node.size):
        _clear(node, size, start, min(end, node.size))


def next_data_in(node, size, at):
    """Return the first offset from this one on that lies in a data block, or None."""
    numbers = [number for number in node.blocks if number >= at // size]
    if at >= node.size or not numbers:
        return None
    return max(at, size * min(numbers))


def next_hole_in(node, size, at):
    """Return the first offset from this one on that lies in a hole, or the size, or None."""
    if at >= node.size:
        return None
    number = at // size
    while number in node.blocks:
        number += 1
    return min(max(at, size * number), node.size)


def _clear(node, size, start, end):
    """Take the octets of a range away; blocks that have no others in the file go."""
    numbers = sorted(node.blocks)
    for number in numbers:
        first = number * size
        behind = min(first + size, node.size)
        if start <= first and behind <= end:
            del node.blocks[number]
        elif first < end and start < behind:
            node.blocks[number] = tuple([0 if start <= first + place < end else octet
                                         for place, octet in enumerate(node.blocks[number])])


def _octets_of_block(node, size, number):
    """Return the octets of a data block, zeros if it is missing."""
    return list(node.blocks.get(number, (0,) * size))
