"""Files: octets and holes in the data blocks of a tree."""

from segmentfs.errors import FileTooLarge
from segmentfs.geometry.layout import parts_of
from segmentfs.trees.radix import block_id, clear_blocks, least_height, least_number_from, set_block, walk_tree

MOST_OCTETS = 1048576


class PlainFile:
    """A file: its size and its tree."""

    def __init__(self, size=0, height=0, root=0):
        self.size = size
        self.height = height
        self.root = root


def read_file(store, file, *, at, count):
    """Return the octets from an offset on, at most so many as told."""
    end = min(at + count, file.size)
    if at >= end:
        return []
    first = at // store.layout.block_size
    octets = []
    for number in range(first, parts_of(end, store.layout.block_size)):
        octets.extend(_octets_of_block(store, file, number))
    start = first * store.layout.block_size
    return octets[at - start:end - start]


def write_file(store, file, *, at, octets):
    """Write octets from an offset on."""
    end = at + len(octets)
    if end > MOST_OCTETS:
        raise FileTooLarge(f"a file has at most {MOST_OCTETS} octets")
    if not octets:
        return
    size = store.layout.block_size
    for number in range(at // size, parts_of(end, size)):
        start = number * size
        low = max(at, start)
        high = min(end, start + size)
        former = _octets_of_block(store, file, number)
        former[low - start:high - start] = octets[low - at:high - at]
        set_block(store, file, number, former)
    file.size = max(file.size, end)


def truncate_file(store, file, size):
    """Set the size of a file."""
    if size < file.size:
        block_size = store.layout.block_size
        clear_blocks(store, file, parts_of(size, block_size), parts_of(file.size, block_size))
        if size % block_size != 0:
            _set_to_zeros(store, file, size // block_size, size, file.size)
    file.size = size


def punch_file(store, file, *, start, end):
    """Make the octets from start to end - 1 read as 0."""
    if end <= start or start >= file.size:
        return
    size = store.layout.block_size
    if end >= file.size:
        behind = parts_of(file.size, size)
    else:
        behind = end // size
    clear_blocks(store, file, parts_of(start, size), behind)
    _set_to_zeros(store, file, start // size, start, end)
    if end // size != start // size:
        _set_to_zeros(store, file, end // size, start, end)


def next_data(store, file, at):
    """Return the first offset from this one on that lies in a data block, or None."""
    if at >= file.size:
        return None
    number = least_number_from(store, file, at // store.layout.block_size)
    if number is None:
        return None
    return max(at, number * store.layout.block_size)


def next_hole(store, file, at):
    """Return the first offset from this one on that lies in a hole, or the size, or None."""
    if at >= file.size:
        return None
    size = store.layout.block_size
    for number in range(at // size, parts_of(file.size, size)):
        if block_id(store, file, number) == 0:
            return max(at, number * size)
    return file.size


def block_numbers(store, file):
    """Return the numbers of the data blocks, ascending."""
    return [first for ident, level, first in walk_tree(store, file) if level == 0]


def file_ids(store, file):
    """Return the ids of all blocks of the tree, an index block ahead of what is below it."""
    return [ident for ident, level, first in walk_tree(store, file)]


def release_file(store, file):
    """Take all blocks of the tree away."""
    idents = file_ids(store, file)
    for ident in idents:
        store.remove(ident)
    file.size = 0
    file.height = 0
    file.root = 0


def blocks_by_numbers(layout, numbers):
    """Return the number of blocks of a tree whose data blocks have these numbers."""
    if not numbers:
        return 0
    level = list(numbers)
    total = len(set(level))
    for _ in range(least_height(layout, max(level))):
        level = [number // layout.fan for number in level]
        total += len(set(level))
    return total


def _octets_of_block(store, file, number):
    """Return the octets of a data block, zeros if it is missing."""
    ident = block_id(store, file, number)
    if ident == 0:
        return [0] * store.layout.block_size
    return list(store.get(ident)[1])


def _set_to_zeros(store, file, number, start, end):
    """Replace the octets of a data block at the offsets from start to end - 1 by 0, if the block is there."""
    if block_id(store, file, number) == 0:
        return
    first = number * store.layout.block_size
    octets = _octets_of_block(store, file, number)
    for place in range(len(octets)):
        if start <= first + place < end:
            octets[place] = 0
    set_block(store, file, number, octets)
