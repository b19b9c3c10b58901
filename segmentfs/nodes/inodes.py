"""Inodes: what is known of a node besides its octets."""

from segmentfs.image.octets import number_octets, number_of

FILE = 1
DIRECTORY = 2
LINK = 3
INODE_OCTETS = 16


class Inode:
    """The inode of a node; it is a file, whose tree holds the octets of the node."""

    def __init__(self, kind, links=1, size=0, height=0, root=0, parent=0):
        self.kind = kind
        self.links = links
        self.size = size
        self.height = height
        self.root = root
        self.parent = parent

    @property
    def is_directory(self):
        """True if the node is a directory."""
        return self.kind == DIRECTORY


def encode_inode(inode):
    """Return the octets of an inode."""
    octets = [inode.kind]
    octets.extend(number_octets(inode.links, 2))
    octets.extend(number_octets(inode.size, 4))
    octets.append(inode.height)
    octets.extend(number_octets(inode.root, 2))
    octets.extend(number_octets(inode.parent, 2))
    return octets + [0, 0, 0, 0]


def holds_inode(octets):
    """Tell whether the octets are those of an inode."""
    return octets[0] in (FILE, DIRECTORY, LINK) and not any(octets[12:])


def decode_inode(octets):
    """Return the inode with these octets, or None if they are not those of an inode."""
    if not holds_inode(octets):
        return None
    return Inode(
        octets[0],
        links=number_of(octets[1:3]),
        size=number_of(octets[3:7]),
        height=octets[7],
        root=number_of(octets[8:10]),
        parent=number_of(octets[10:12]),
    )
