"""Plain trees of nodes: what directories, files and links mean, without ids and blocks on a device."""

from segmentfs.geometry.layout import parts_of
from segmentfs.names.questions import Info
from segmentfs.nodes.directories import ENTRY_OCTETS
from segmentfs.nodes.inodes import INODE_OCTETS
from segmentfs.nodes.nodes import ROOT_NUMBER
from segmentfs.trees.files import blocks_by_numbers


class PlainNode:
    """A node of a plain tree, without octets and entries at first.

    Several trees may share it, so a tree changes it only behind `PlainTree.changed`.
    """

    def __init__(self, kind, parent=0):
        self.kind = kind
        self.links = 1
        self.parent = parent
        self.size = 0
        # The data blocks of a file: tuples of octets by the numbers of the blocks.
        self.blocks = {}
        # The places of a directory: each None or a name and a number.
        self.places = []
        # The text of a symbolic link.
        self.text = ""

    def fork(self):
        """Return another node with the same contents."""
        twin = PlainNode(self.kind, self.parent)
        twin.links = self.links
        twin.size = self.size
        twin.blocks = dict(self.blocks)
        twin.places = list(self.places)
        twin.text = self.text
        return twin


class PlainTree:
    """The nodes of a plain volume; the root directory alone at first."""

    def __init__(self, layout):
        self.layout = layout
        self._nodes = {ROOT_NUMBER: PlainNode("directory", ROOT_NUMBER)}

    def node(self, number):
        """Return the node with this number, which callers only read."""
        return self._nodes[number]

    def changed(self, number):
        """Return a node of this tree alone that stands for the former one and can be changed."""
        twin = self._nodes[number].fork()
        self._nodes[number] = twin
        return twin

    def insert_node(self, node):
        """Give a node the least number that is not in use, and return the number."""
        number = 1
        while number in self._nodes:
            number += 1
        self._nodes[number] = node
        return number

    def drop(self, number):
        """Take a node away."""
        del self._nodes[number]

    def numbers(self):
        """Return the numbers of all nodes, ascending."""
        return sorted(self._nodes)

    def fork(self):
        """Return another tree with the same nodes."""
        twin = PlainTree(self.layout)
        twin._nodes = dict(self._nodes)
        return twin

    def block_total(self, number):
        """Return the number of blocks of a node."""
        node = self._nodes[number]
        if node.kind == "file":
            return blocks_by_numbers(self.layout, list(node.blocks))
        return blocks_by_numbers(self.layout, list(range(parts_of(node.size, self.layout.block_size))))

    def info(self, number):
        """Return the information about a node."""
        node = self._nodes[number]
        return Info(number, node.kind, node.links, node.size, self.block_total(number))

    def used(self):
        """Return the number of blocks in use."""
        of_inodes = sorted({INODE_OCTETS * number // self.layout.block_size for number in self._nodes})
        # One more for the superblock.
        total = 1 + blocks_by_numbers(self.layout, of_inodes)
        for number in self._nodes:
            total += self.block_total(number)
        return total


def find_in(node, name):
    """Return the number that a name has in a directory, or 0."""
    for entry in node.places:
        if entry is not None and entry[0] == name:
            return entry[1]
    return 0


def entries_of(node):
    """Return the entries of a directory in the order of their names."""
    return sorted([entry for entry in node.places if entry is not None])


def set_entry(node, name, number):
    """Give a name of a directory a number; a new name goes into the first free place."""
    place = _place_of(node, name)
    if place is None and None in node.places:
        place = node.places.index(None)
    if place is None:
        node.places.append((name, number))
        node.size = ENTRY_OCTETS * len(node.places)
    else:
        node.places[place] = (name, number)


def clear_entry(node, name):
    """Remove a name from a directory, whose places stay."""
    node.places[_place_of(node, name)] = None


def _place_of(node, name):
    """Return the index of the place of a name, or None."""
    for place, entry in enumerate(node.places):
        if entry is not None and entry[0] == name:
            return place
    return None
