"""What a volume does with the octets of its files."""

from segmentfs.trees.files import file_ids, punch_file, truncate_file


def write_pieces(layout, at, octets):
    """Return the offset and the octets of each piece of a write; each piece lies in at most two blocks."""
    found = []
    start = 0
    while start < len(octets):
        offset = at + start
        most = 2 * layout.block_size - offset % layout.block_size
        found.append((offset, octets[start:start + most]))
        start += most
    return found


def truncate_node(nodes, number, size):
    """Set the size of a node."""
    inode = nodes.get(number)
    truncate_file(nodes.store, inode, size)
    nodes.put(number, inode)


def punch_node(nodes, number, at, count):
    """Make a hole of so many octets in a node from an offset on."""
    inode = nodes.get(number)
    punch_file(nodes.store, inode, start=at, end=at + count)
    nodes.put(number, inode)


def reserved_blocks(nodes, handles):
    """Return how many blocks are reserved for open files beyond those that the files have."""
    total = 0
    for opened in handles.files:
        if opened is not None:
            there = len(file_ids(nodes.store, nodes.get(opened.number)))
            total += max(0, opened.reserved - there)
    return total
