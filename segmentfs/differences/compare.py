"""Comparing the trees of two volumes, or of a volume and a snapshot."""

from segmentfs.differences.ways import path_of, ways_below
from segmentfs.names.questions import stat_of
from segmentfs.nodes.inodes import DIRECTORY
from segmentfs.nodes.nodes import ROOT_NUMBER
from segmentfs.trees.radix import walk_tree


def walk_list(nodes, number):
    """Return the text of the way and the information for a node and each node below it."""
    return [(path_of(way), stat_of(nodes, below)) for way, below in ways_below(nodes, number)]


def alike(first, number, second, other):
    """Tell whether a node of the first nodes and one of the second nodes are alike."""
    inode = first.get(number)
    twin = second.get(other)
    if inode.kind != twin.kind:
        return False
    if inode.kind == DIRECTORY:
        return True
    # The octets of a link are those of its text, and they have no holes.
    return inode.size == twin.size and data_blocks(first, inode) == data_blocks(second, twin)


def differences(first, second):
    """Return the text of the way and the change for each way at which two trees differ."""
    former = {way: number for way, number in ways_below(first, ROOT_NUMBER)}
    later = {way: number for way, number in ways_below(second, ROOT_NUMBER)}
    found = []
    for way in sorted(list(former) + [way for way in later if way not in former]):
        if way not in later:
            found.append((path_of(way), "removed"))
        elif way not in former:
            found.append((path_of(way), "added"))
        elif not alike(first, former[way], second, later[way]):
            found.append((path_of(way), "changed"))
    return found


def data_blocks(nodes, inode):
    """Return the number and the octets of each data block of a node, ascending."""
    return [(first, nodes.store.get(ident)[1]) for ident, level, first in walk_tree(nodes.store, inode) if level == 0]
