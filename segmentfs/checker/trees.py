"""The faults of a single file."""

from segmentfs.device.block import DATA, NODE
from segmentfs.geometry.layout import parts_of
from segmentfs.trees.radix import children_of, least_height


def tree_fault(layout, blocks, file):
    """Return the first fault of a file and its number, or None."""
    seen = {}
    data_ids = {}
    waiting = []
    if file.root != 0:
        waiting.append((file.root, file.height, 0))
    while waiting:
        ident, level, first = waiting.pop()
        fault = "block used twice" if ident in seen else _fault_of_block(blocks, ident, level)
        if fault is not None:
            return (fault, ident)
        seen[ident] = True
        if level == 0:
            data_ids[first] = ident
        else:
            waiting.extend(children_of(layout, blocks[ident][1], level, first)[::-1])
    return _fault_of_shape(layout, blocks, file, data_ids)


def _fault_of_block(blocks, ident, level):
    """Return the fault of a block that a tree has at a level, or None."""
    kind = blocks[ident][0] if ident in blocks else 0
    if level == 0:
        return None if kind == DATA else "no data block"
    if kind != NODE:
        return "no index block"
    return None if any(blocks[ident][1]) else "index block without blocks"


def _fault_of_shape(layout, blocks, file, data_ids):
    """Return the fault of a file whose blocks are those of a tree; `data_ids` has the ids of the data blocks.

    The keys of `data_ids` are the numbers of the data blocks, ascending.
    """
    numbers = list(data_ids)
    least = least_height(layout, numbers[-1]) if numbers else 0
    if file.height != least:
        return ("tree too high", file.root)
    end = parts_of(file.size, layout.block_size)
    for number in numbers:
        if number >= end:
            return ("data block behind the end", number)
    ident = data_ids.get(file.size // layout.block_size, 0)
    if ident != 0 and any(blocks[ident][1][file.size % layout.block_size:]):
        return ("octets behind the end", file.size)
    return None
