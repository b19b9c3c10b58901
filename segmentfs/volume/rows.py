"""Rows: a whole tree as a list."""

from segmentfs.differences.compare import data_blocks
from segmentfs.differences.ways import path_of, ways_below
from segmentfs.names.questions import stat_of
from segmentfs.nodes.directories import link_text
from segmentfs.nodes.inodes import DIRECTORY, LINK
from segmentfs.nodes.nodes import ROOT_NUMBER


def rows_of(nodes):
    """Return a row for the root directory and for each way from it."""
    rows = []
    for way, number in ways_below(nodes, ROOT_NUMBER):
        info = stat_of(nodes, number)
        rows.append(row_of(path_of(way), info, _content(nodes, number)))
    return rows


def row_of(text, info, content):
    """Return the row of a node."""
    return (text, info.number, info.kind, info.links, info.size, info.block_total, content)


def blocks_in_file(found, block_size, size):
    """Return the numbers and the octets of data blocks, these as far as they lie in a file of this size."""
    return [(number, list(octets[:size - number * block_size])) for number, octets in found]


def _content(nodes, number):
    """Return what a row tells of the octets of a node."""
    inode = nodes.get(number)
    if inode.kind == DIRECTORY:
        return None
    if inode.kind == LINK:
        return link_text(nodes, number)
    return blocks_in_file(data_blocks(nodes, inode), nodes.layout.block_size, inode.size)
