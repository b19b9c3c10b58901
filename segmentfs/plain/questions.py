"""Questions about the nodes of a plain tree."""

from segmentfs.differences.ways import path_of
from segmentfs.errors import IsDirectory, NotDirectory, NotLink
from segmentfs.names.paths import read_path
from segmentfs.nodes.nodes import ROOT_NUMBER
from segmentfs.plain.nodes import entries_of
from segmentfs.plain.ways import plain_node_at, plain_ways
from segmentfs.volume.rows import blocks_in_file, row_of


def plain_stat(tree, text, *, follow_last):
    """Return the information about the node at a path."""
    return tree.info(plain_node_at(tree, read_path(text), follow_last=follow_last))


def plain_readlink(tree, text):
    """Return the text of the symbolic link at a path."""
    node = tree.node(plain_node_at(tree, read_path(text), follow_last=False))
    if node.kind != "link":
        raise NotLink("the path leads to no symbolic link")
    return node.text


def plain_readdir(tree, text):
    """Return the entries of the directory at a path in the order of their names."""
    node = tree.node(plain_node_at(tree, read_path(text), follow_last=True))
    if node.kind != "directory":
        raise NotDirectory("the path leads to no directory")
    return entries_of(node)


def plain_file_at(tree, text):
    """Return the number of the file at a path."""
    number = plain_node_at(tree, read_path(text), follow_last=True)
    if tree.node(number).kind == "directory":
        raise IsDirectory("the path leads to a directory")
    return number


def plain_walk(tree, text):
    """Return the ways and the information of the node at a path and of all nodes below it."""
    number = plain_node_at(tree, read_path(text), follow_last=False)
    return [(path_of(way), tree.info(below)) for way, below in plain_ways(tree, number)]


def plain_rows(tree):
    """Return a row for the root directory and for each way from it."""
    rows = []
    for way, number in plain_ways(tree, ROOT_NUMBER):
        rows.append(row_of(path_of(way), tree.info(number), _content(tree, number)))
    return rows


def _content(tree, number):
    """Return what a row tells of the octets of a node."""
    node = tree.node(number)
    if node.kind == "directory":
        return None
    if node.kind == "link":
        return node.text
    return blocks_in_file(sorted(node.blocks.items()), tree.layout.block_size, node.size)
