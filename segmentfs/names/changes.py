"""Changes of names: nodes are made, get further names, and lose names.

The nodes may be changed partly if an error is raised; the caller passes a fork and drops it then.
"""

from segmentfs.errors import Busy, InvalidMove, IsDirectory, NotAllowed, NotDirectory, NotEmpty, NotFound, TooManyNames
from segmentfs.names.paths import MOST_LINKS, read_path, read_target
from segmentfs.names.ways import follow, new_name_at, node_at
from segmentfs.nodes.directories import add_entry, entries, remove_entry, write_link_text
from segmentfs.nodes.inodes import DIRECTORY, FILE, LINK, Inode
from segmentfs.nodes.nodes import ROOT_NUMBER, drop_node


def mkdir(nodes, text):
    """Make a directory, and return its number."""
    way = new_name_at(nodes, read_path(text))
    number = nodes.new_number()
    nodes.put(number, Inode(DIRECTORY, parent=way.directory))
    add_entry(nodes, way.directory, way.name, number)
    return number


def create(nodes, text):
    """Make a file, and return its number."""
    way = _new_name_of_no_directory(nodes, read_path(text))
    number = nodes.new_number()
    nodes.put(number, Inode(FILE))
    add_entry(nodes, way.directory, way.name, number)
    return number


def symlink(nodes, target, text):
    """Make a symbolic link with the text `target`, and return its number."""
    read_target(target)
    way = _new_name_of_no_directory(nodes, read_path(text))
    number = nodes.new_number()
    nodes.put(number, Inode(LINK))
    write_link_text(nodes, number, target)
    add_entry(nodes, way.directory, way.name, number)
    return number


def link(nodes, text, new_text):
    """Give a file or a symbolic link a further name."""
    path = read_path(text)
    new_path = read_path(new_text)
    number = node_at(nodes, path, follow_last=False)
    inode = nodes.get(number)
    if inode.is_directory:
        raise NotAllowed("a directory gets no second name")
    way = _new_name_of_no_directory(nodes, new_path)
    if inode.links >= MOST_LINKS:
        raise TooManyNames(f"a node has at most {MOST_LINKS} names")
    inode.links += 1
    nodes.put(number, inode)
    add_entry(nodes, way.directory, way.name, number)


def unlink(nodes, text, opened):
    """Remove a name of a file or of a symbolic link."""
    path = read_path(text)
    way = follow(nodes, path, follow_last=False)
    if way.at_free:
        raise NotFound(f"there is no {way.name}")
    # A way that ends at a directory itself has the number of this directory.
    if nodes.get(way.number).is_directory:
        raise IsDirectory("the path leads to a directory")
    if path.closed:
        raise NotDirectory(f"{way.name} is no directory")
    remove_entry(nodes, way.directory, way.name)
    release_name(nodes, way.number, opened)


def rmdir(nodes, text):
    """Remove a directory without entries."""
    way = follow(nodes, read_path(text), follow_last=False)
    refuse_directory_itself(way)
    if way.at_free:
        raise NotFound(f"there is no {way.name}")
    if not nodes.get(way.number).is_directory:
        raise NotDirectory(f"{way.name} is no directory")
    if entries(nodes, way.number):
        raise NotEmpty(f"{way.name} has entries")
    remove_entry(nodes, way.directory, way.name)
    drop_node(nodes, way.number)


def release_name(nodes, number, opened):
    """Let a file or a symbolic link have one name less; its entry is removed already."""
    inode = nodes.get(number)
    if inode.links == 1 and number not in opened:
        drop_node(nodes, number)
        return
    inode.links -= 1
    nodes.put(number, inode)


def refuse_directory_itself(way):
    """Raise an error if a way ends at a directory itself, which cannot be removed or moved by such a way."""
    if not way.at_directory:
        return
    if way.directory == ROOT_NUMBER:
        raise Busy("the root directory stays")
    raise InvalidMove("the path ends at a directory itself")


def _new_name_of_no_directory(nodes, path):
    """Return the way to a new name for a node that is no directory."""
    way = new_name_at(nodes, path)
    if path.closed:
        raise NotDirectory(f"{way.name} would be no directory")
    return way
