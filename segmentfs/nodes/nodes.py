"""Nodes: the file of inodes and the blocks of all nodes in memory."""

from segmentfs.device.block import DATA
from segmentfs.nodes.inodes import DIRECTORY, INODE_OCTETS, Inode, decode_inode, encode_inode, holds_inode
from segmentfs.nodes.superblock import SUPERBLOCK_ID, Superblock, decode_superblock, encode_superblock
from segmentfs.trees.files import block_numbers, file_ids, read_file, release_file, write_file
from segmentfs.trees.radix import block_id, clear_blocks
from segmentfs.trees.store import Store

ROOT_NUMBER = 1


class Nodes:
    """The nodes of a volume in memory."""

    def __init__(self, layout, blocks):
        self.layout = layout
        self.store = Store(layout, blocks)
        self.superblock = decode_superblock(self.store.get(SUPERBLOCK_ID)[1])

    def get(self, number):
        """Return the inode with this number, or None if the number is not in use."""
        octets = read_file(self.store, self.superblock, at=INODE_OCTETS * number, count=INODE_OCTETS)
        if number == 0 or len(octets) < INODE_OCTETS:
            return None
        return decode_inode(octets)

    def put(self, number, inode):
        """Write the inode of a number."""
        write_file(self.store, self.superblock, at=INODE_OCTETS * number, octets=encode_inode(inode))
        self._put_superblock()

    def new_number(self):
        """Return the least number that is not in use."""
        number = 1
        for taken in self.numbers_in_use():
            if taken != number:
                break
            number += 1
        return number

    def remove(self, number):
        """Take the inode of a number away."""
        block = INODE_OCTETS * number // self.layout.block_size
        if inodes_in_block(self, block) == [number]:
            clear_blocks(self.store, self.superblock, block, block + 1)
        else:
            write_file(self.store, self.superblock, at=INODE_OCTETS * number, octets=[0] * INODE_OCTETS)
        self.superblock.size = INODE_OCTETS * (self.numbers_in_use()[-1] + 1)
        self._put_superblock()

    def numbers_in_use(self):
        """Return the numbers in use, ascending."""
        numbers = []
        for block in block_numbers(self.store, self.superblock):
            numbers.extend(inodes_in_block(self, block))
        return numbers

    def set_snapshot_name(self, slot, name):
        """Give a slot a name, or None."""
        self.superblock.names[slot] = name
        self._put_superblock()

    def fork(self):
        """Return other nodes with the same contents."""
        return Nodes(self.layout, self.store.blocks)

    def _put_superblock(self):
        """Set the block of the superblock to what is known now."""
        self.store.put(SUPERBLOCK_ID, (DATA, encode_superblock(self.layout, self.superblock)))


def new_nodes(layout):
    """Return the nodes of a new volume."""
    empty = Superblock(0, 0, 0, [None, None, None])
    nodes = Nodes(layout, {SUPERBLOCK_ID: (DATA, encode_superblock(layout, empty))})
    nodes.put(ROOT_NUMBER, Inode(DIRECTORY, parent=ROOT_NUMBER))
    return nodes


def write_node(nodes, number, at, octets):
    """Write octets of a node from an offset on."""
    inode = nodes.get(number)
    write_file(nodes.store, inode, at=at, octets=octets)
    nodes.put(number, inode)


def drop_node(nodes, number):
    """Take the blocks of a node away, then its inode."""
    release_file(nodes.store, nodes.get(number))
    nodes.remove(number)


def node_ids(nodes):
    """Return the ids that the superblock, the file of inodes and the nodes use."""
    idents = [SUPERBLOCK_ID] + file_ids(nodes.store, nodes.superblock)
    for number in nodes.numbers_in_use():
        idents.extend(file_ids(nodes.store, nodes.get(number)))
    return idents


def inodes_in_block(nodes, block):
    """Return the numbers in use whose inodes lie in a data block of the file of inodes, ascending."""
    octets = nodes.store.get(block_id(nodes.store, nodes.superblock, block))[1]
    first = block * nodes.layout.block_size // INODE_OCTETS
    numbers = []
    for place, start in enumerate(range(0, len(octets), INODE_OCTETS)):
        if first + place > 0 and holds_inode(octets[start:start + INODE_OCTETS]):
            numbers.append(first + place)
    return numbers
