"""The superblock: the file of inodes, and the names of the snapshots."""

from segmentfs.image.octets import number_octets, number_of
from segmentfs.nodes.texts import is_text, octets_of, text_of
from segmentfs.plain.octets import filled, pieces

SUPERBLOCK_ID = 1
NAME_SIGNS = 12
# A slot begins with the length of its name.
SLOT_OCTETS = 13
NAMES_START = 7
NAMES_END = 46


class Superblock:
    """What the superblock tells; it is a file, the file of inodes."""

    def __init__(self, size, height, root, names):
        self.size = size
        self.height = height
        self.root = root
        self.names = list(names)


def is_snapshot_name(text):
    """Tell whether the string is the name of a snapshot."""
    return 1 <= len(text) <= NAME_SIGNS and is_text(text) and " " not in text


def encode_superblock(layout, superblock):
    """Return the octets of the superblock, a whole block."""
    octets = number_octets(superblock.size, 4) + [superblock.height] + number_octets(superblock.root, 2)
    for name in superblock.names:
        octets.extend(_slot_octets(name))
    return tuple(filled(octets, layout.block_size))


def decode_superblock(octets):
    """Return the superblock with these octets, or None if they are not those of a superblock."""
    names = []
    for slot in pieces(list(octets[NAMES_START:NAMES_END]), SLOT_OCTETS):
        name = _name_in(slot)
        if slot != _slot_octets(name):
            return None
        names.append(name)
    if any(octets[NAMES_END:]):
        return None
    return Superblock(number_of(octets[0:4]), octets[4], number_of(octets[5:7]), names)


def _slot_octets(name):
    """Return the octets of a slot with this name, or of a free one."""
    if name is None:
        return [0] * SLOT_OCTETS
    return filled([len(name)] + octets_of(name), SLOT_OCTETS)


def _name_in(slot):
    """Return the name that the octets of a slot begin with, or None if this is no name of a snapshot."""
    text = text_of(slot[1:1 + slot[0]])
    if text is None or not is_snapshot_name(text):
        return None
    return text
