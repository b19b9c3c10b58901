"""The faults of the names of the nodes of a volume."""

from segmentfs.geometry.layout import parts_of
from segmentfs.names.paths import MOST_LINKS, MOST_PATH
from segmentfs.nodes.directories import ENTRY_OCTETS, decode_entry, entries, octets_of_node, place_octets
from segmentfs.nodes.inodes import LINK
from segmentfs.nodes.nodes import ROOT_NUMBER
from segmentfs.nodes.texts import text_of
from segmentfs.trees.files import MOST_OCTETS, block_numbers


class Listed:
    """What all directories together tell of the nodes."""

    def __init__(self, nodes):
        # The entries by the numbers of the directories.
        self.found = {}
        # How many entries there are with a number.
        self.counts = {}
        for number in nodes.numbers_in_use():
            if nodes.get(number).is_directory:
                self.found[number] = entries(nodes, number)
                for name, target in self.found[number]:
                    self.counts[target] = self.counts.get(target, 0) + 1


def names_fault(nodes):
    """Return the first fault of the names of a volume and its number, or None."""
    for number in nodes.numbers_in_use():
        fault = _own_fault(nodes, number)
        if fault is not None:
            return (fault, number)
    root = nodes.get(ROOT_NUMBER)
    if root is None or not root.is_directory:
        return ("there is no root directory", ROOT_NUMBER)
    listed = Listed(nodes)
    for number in nodes.numbers_in_use():
        fault = _fault_among_others(nodes, listed, number)
        if fault is not None:
            return (fault, number)
    return None


def _own_fault(nodes, number):
    """Return the fault of a node that can be told without other nodes, or None."""
    inode = nodes.get(number)
    if inode.size > MOST_OCTETS:
        return "a file is too large"
    if inode.links > MOST_LINKS:
        return "there are too many names"
    if inode.is_directory:
        return _fault_of_places(nodes, number)
    if inode.parent != 0:
        return "a parent is told"
    if inode.kind == LINK and _has_hole(nodes, inode):
        return "a link has a hole"
    return None


def _fault_of_places(nodes, number):
    """Return the fault of the inode or of the places of a directory, or None."""
    inode = nodes.get(number)
    if inode.links != 1:
        return "names are not counted right"
    if inode.size % ENTRY_OCTETS != 0:
        return "a directory ends within a place"
    if _has_hole(nodes, inode):
        return "a directory has a hole"
    for octets in place_octets(nodes, number):
        if any(octets) and decode_entry(octets) is None:
            return "a place holds no entry"
    return None


def _has_hole(nodes, inode):
    """Tell whether a data block of the octets of a node is missing."""
    return len(block_numbers(nodes.store, inode)) < parts_of(inode.size, nodes.layout.block_size)


def _fault_among_others(nodes, listed, number):
    """Return the fault of the names of a node, in it or in other directories, or None."""
    inode = nodes.get(number)
    count = listed.counts.get(number, 0)
    if inode.is_directory:
        fault = _fault_of_entries(nodes, listed.found[number])
        if fault is None and number == ROOT_NUMBER:
            fault = _fault_of_root(inode, count)
        elif fault is None:
            fault = _fault_of_directory(nodes, listed, number)
        return fault
    if inode.links != count or (inode.kind == LINK and count == 0):
        return "names are not counted right"
    if inode.kind == LINK and not _has_link_text(nodes, number):
        return "a link has no valid text"
    return None


def _fault_of_entries(nodes, found):
    """Return the fault of the entries of a directory, or None."""
    names = [name for name, target in found]
    if len(set(names)) < len(names):
        return "a name occurs twice"
    for name, target in found:
        if nodes.get(target) is None:
            return "an entry leads nowhere"
    return None


def _fault_of_root(inode, count):
    """Return the fault of the root directory, which has so many names, or None."""
    if inode.parent != ROOT_NUMBER:
        return "the root directory has a parent"
    if count > 0:
        return "the root directory has a name"
    return None


def _fault_of_directory(nodes, listed, number):
    """Return the fault of the name or of the parent of a directory that is not the root directory, or None."""
    if listed.counts.get(number, 0) != 1:
        return "a directory has not exactly one name"
    known = listed.found.get(nodes.get(number).parent, [])
    if number not in [target for name, target in known]:
        return "a parent does not know its directory"
    if not _leads_to_root(nodes, listed.found, number):
        return "a directory lies below itself"
    return None


def _leads_to_root(nodes, directories, number):
    """Tell whether going up from a directory leads to the root directory."""
    at = number
    # Whoever goes up through more directories than there are goes round in circles.
    for _ in range(len(directories)):
        if at not in directories or at == ROOT_NUMBER:
            break
        at = nodes.get(at).parent
    return at == ROOT_NUMBER


def _has_link_text(nodes, number):
    """Tell whether the octets of a symbolic link are those of a text that a link can have."""
    octets = octets_of_node(nodes, number)
    return 0 < len(octets) <= MOST_PATH and text_of(octets) is not None
