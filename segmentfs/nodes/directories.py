"""Directories and symbolic links: what the octets of their nodes tell."""

from segmentfs.image.octets import number_octets, number_of
from segmentfs.nodes.nodes import write_node
from segmentfs.nodes.texts import is_text, octets_of, text_of
from segmentfs.plain.octets import filled, pieces
from segmentfs.trees.files import read_file

ENTRY_OCTETS = 32
MOST_SIGNS = 28
# Ahead of the name stand the number of the node and the length of the name.
NAME_START = 3


def is_name(text):
    """Tell whether the string is a valid name."""
    return 1 <= len(text) <= MOST_SIGNS and is_text(text) and "/" not in text and text not in (".", "..")


def encode_entry(name, number):
    """Return the octets of an entry."""
    return filled(number_octets(number, 2) + [len(name)] + octets_of(name), ENTRY_OCTETS)


def decode_entry(octets):
    """Return the name and the number of an entry, or None if the octets are those of no entry."""
    number = number_of(octets[:2])
    name = text_of(octets[NAME_START:NAME_START + octets[2]])
    if number == 0 or name is None or not is_name(name):
        return None
    if octets != encode_entry(name, number):
        return None
    return (name, number)


def place_octets(nodes, number):
    """Return the octets of each place of a directory."""
    return pieces(octets_of_node(nodes, number), ENTRY_OCTETS)


def places(nodes, number):
    """Return the entry at each place of a directory, None for a free place."""
    return [decode_entry(octets) for octets in place_octets(nodes, number)]


def entries(nodes, number):
    """Return the entries of a directory in the order of their names."""
    return sorted([entry for entry in places(nodes, number) if entry is not None])


def find_entry(nodes, number, name):
    """Return the number that a name has in a directory, or 0."""
    for entry in places(nodes, number):
        if entry is not None and entry[0] == name:
            return entry[1]
    return 0


def add_entry(nodes, number, name, target):
    """Add an entry to a directory."""
    found = places(nodes, number)
    place = found.index(None) if None in found else len(found)
    write_node(nodes, number, ENTRY_OCTETS * place, encode_entry(name, target))


def change_entry(nodes, number, name, target):
    """Give a name of a directory another number."""
    write_node(nodes, number, _offset_of(nodes, number, name), encode_entry(name, target))


def remove_entry(nodes, number, name):
    """Remove a name from a directory; its place stays, and is free."""
    write_node(nodes, number, _offset_of(nodes, number, name), [0] * ENTRY_OCTETS)


def link_text(nodes, number):
    """Return the text of a symbolic link."""
    return text_of(octets_of_node(nodes, number))


def write_link_text(nodes, number, text):
    """Write the text of a symbolic link that has none yet."""
    write_node(nodes, number, 0, octets_of(text))


def octets_of_node(nodes, number):
    """Return all octets of a node."""
    inode = nodes.get(number)
    return read_file(nodes.store, inode, at=0, count=inode.size)


def _offset_of(nodes, number, name):
    """Return the offset of the place of a name in the octets of its directory."""
    names = [None if entry is None else entry[0] for entry in places(nodes, number)]
    return ENTRY_OCTETS * names.index(name)
