"""Questions about nodes: what is known of them by their names."""

from segmentfs.errors import IsDirectory, NotDirectory, NotLink
from segmentfs.names.paths import read_path
from segmentfs.names.ways import node_at
from segmentfs.nodes.directories import entries, link_text
from segmentfs.nodes.inodes import LINK
from segmentfs.trees.files import file_ids

# The words stand at the kinds of the inodes; no node has the kind 0.
KIND_WORDS = ("", "file", "directory", "link")


class Info:
    """The information about a node."""

    def __init__(self, number, kind, links, size, block_total):
        self.number = number
        self.kind = kind
        self.links = links
        self.size = size
        self.block_total = block_total


def stat_of(nodes, number):
    """Return the information about a node."""
    inode = nodes.get(number)
    return Info(number, KIND_WORDS[inode.kind], inode.links, inode.size, len(file_ids(nodes.store, inode)))


def stat(nodes, text, *, follow_last=True):
    """Return the information about the node at a path."""
    return stat_of(nodes, node_at(nodes, read_path(text), follow_last=follow_last))


def readlink(nodes, text):
    """Return the text of the symbolic link at a path."""
    number = node_at(nodes, read_path(text), follow_last=False)
    if nodes.get(number).kind != LINK:
        raise NotLink("the path leads to no symbolic link")
    return link_text(nodes, number)


def readdir(nodes, text):
    """Return the entries of the directory at a path in the order of their names."""
    number = node_at(nodes, read_path(text), follow_last=True)
    if not nodes.get(number).is_directory:
        raise NotDirectory("the path leads to no directory")
    return entries(nodes, number)


def file_at(nodes, text):
    """Return the number of the file at a path."""
    number = node_at(nodes, read_path(text), follow_last=True)
    if nodes.get(number).is_directory:
        raise IsDirectory("the path leads to a directory")
    return number
