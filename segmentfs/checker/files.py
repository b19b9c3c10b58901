"""The faults of the files of a volume."""

from segmentfs.checker.trees import tree_fault
from segmentfs.device.block import DATA
from segmentfs.nodes.inodes import INODE_OCTETS
from segmentfs.nodes.nodes import Nodes, inodes_in_block, node_ids
from segmentfs.nodes.superblock import SUPERBLOCK_ID, decode_superblock
from segmentfs.trees.files import MOST_OCTETS, block_numbers, read_file


def files_fault(layout, blocks):
    """Return the first fault of the files of a volume and its number, or None."""
    superblock = _superblock_in(blocks)
    if superblock is None or superblock.size > MOST_OCTETS:
        return ("no superblock", SUPERBLOCK_ID)
    fault = tree_fault(layout, blocks, superblock)
    if fault is not None:
        return fault
    nodes = Nodes(layout, blocks)
    return _inode_fault(nodes) or _size_fault(nodes) or _node_fault(nodes) or _use_fault(nodes)


def _superblock_in(blocks):
    """Return the superblock of the blocks, or None."""
    if SUPERBLOCK_ID not in blocks:
        return None
    kind, body = blocks[SUPERBLOCK_ID]
    return decode_superblock(body) if kind == DATA else None


def _inode_fault(nodes):
    """Return the fault of the first octets that are those of no inode."""
    per_block = nodes.layout.block_size // INODE_OCTETS
    for block in block_numbers(nodes.store, nodes.superblock):
        in_use = inodes_in_block(nodes, block)
        for number in range(block * per_block, (block + 1) * per_block):
            octets = read_file(nodes.store, nodes.superblock, at=INODE_OCTETS * number, count=INODE_OCTETS)
            if len(octets) == INODE_OCTETS and number not in in_use and any(octets):
                return ("no inode", number)
    return None


def _size_fault(nodes):
    """Return the fault of a file of inodes that does not end where its last inode ends, or of its data blocks."""
    numbers = nodes.numbers_in_use()
    needed = INODE_OCTETS * (numbers[-1] + 1) if numbers else 0
    if nodes.superblock.size != needed:
        return ("file of inodes of wrong size", nodes.superblock.size)
    for block in block_numbers(nodes.store, nodes.superblock):
        if not inodes_in_block(nodes, block):
            return ("block without inodes", block)
    return None


def _node_fault(nodes):
    """Return the fault of the first node whose file has one."""
    for number in nodes.numbers_in_use():
        fault = tree_fault(nodes.layout, nodes.store.blocks, nodes.get(number))
        if fault is not None:
            return fault
    return None


def _use_fault(nodes):
    """Return the fault of a block that is used twice, or by nothing."""
    idents = node_ids(nodes)
    uses = {}
    for ident in idents:
        uses[ident] = uses.get(ident, 0) + 1
    for ident in idents:
        if uses[ident] > 1:
            return ("block used twice", ident)
    unused = [ident for ident in nodes.store.blocks if ident not in uses]
    if unused:
        return ("block that nothing uses", min(unused))
    return None
