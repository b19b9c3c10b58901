"""Changes of the names of a plain tree.

The tree may be changed partly if an error is raised; the caller passes a fork and drops it then.
"""

from segmentfs.errors import (
    Busy, InvalidMove, IsDirectory, NameTooLong, NotAllowed, NotDirectory, NotEmpty, NotFound, TooManyNames)
from segmentfs.names.paths import MOST_LINKS, MOST_NAME, read_path, read_target
from segmentfs.nodes.nodes import ROOT_NUMBER
from segmentfs.plain.nodes import PlainNode, clear_entry, entries_of, set_entry
from segmentfs.plain.ways import plain_follow, plain_new_name, plain_node_at


def plain_mkdir(tree, text):
    """Make a directory."""
    way = plain_new_name(tree, read_path(text))
    _add_node(tree, way, PlainNode("directory", way.directory))


def plain_create(tree, text):
    """Make a file, and return its number."""
    way = _new_name_of_no_directory(tree, read_path(text))
    return _add_node(tree, way, PlainNode("file"))


def plain_symlink(tree, target, text):
    """Make a symbolic link."""
    read_target(target)
    way = _new_name_of_no_directory(tree, read_path(text))
    node = PlainNode("link")
    node.text = target
    node.size = len(target)
    _add_node(tree, way, node)


def plain_link(tree, text, new_text):
    """Give a file or a symbolic link a further name."""
    path = read_path(text)
    new_path = read_path(new_text)
    number = plain_node_at(tree, path, follow_last=False)
    if _is_directory(tree, number):
        raise NotAllowed("a directory gets no second name")
    way = _new_name_of_no_directory(tree, new_path)
    if tree.node(number).links >= MOST_LINKS:
        raise TooManyNames(f"a node has at most {MOST_LINKS} names")
    node = tree.changed(number)
    node.links += 1
    _set_name(tree, way, number)


def plain_unlink(tree, text, opened):
    """Remove a name of a file or of a symbolic link."""
    path = read_path(text)
    way = plain_follow(tree, path, follow_last=False)
    if way.at_free:
        raise NotFound("there is no such name")
    # A way that ends at a directory itself has the number of this directory.
    if _is_directory(tree, way.number):
        raise IsDirectory("the path leads to a directory")
    if path.closed:
        raise NotDirectory("the path asks for a directory")
    _clear_name(tree, way)
    _lose_name(tree, way.number, opened)


def plain_rmdir(tree, text):
    """Remove a directory without entries."""
    way = plain_follow(tree, read_path(text), follow_last=False)
    _refuse_directory_itself(way)
    if way.at_free:
        raise NotFound("there is no such name")
    if not _is_directory(tree, way.number):
        raise NotDirectory("the name is that of no directory")
    if entries_of(tree.node(way.number)):
        raise NotEmpty("the directory has entries")
    _clear_name(tree, way)
    tree.drop(way.number)


def plain_rename(tree, text, new_text, opened):
    """Give a node another name, perhaps that of a node that is replaced."""
    path = read_path(text)
    new_path = read_path(new_text)
    old = plain_follow(tree, path, follow_last=False)
    _refuse_directory_itself(old)
    if old.at_free:
        raise NotFound("there is no such name")
    is_directory = _is_directory(tree, old.number)
    if path.closed and not is_directory:
        raise NotDirectory("the path asks for a directory")
    new = plain_follow(tree, new_path, follow_last=False)
    _refuse_directory_itself(new)
    if is_directory and old.number in _directories_above(tree, new.directory):
        raise InvalidMove("a directory cannot be moved below itself")
    if new_path.closed and not is_directory:
        raise NotDirectory("the new path asks for a directory")
    if new.number == old.number:
        return
    _check_new_name(tree, old, new)
    _take_new_name(tree, old, new, opened)


def _check_new_name(tree, old, new):
    """Raise an error if a node cannot get a name that is free or that of another node."""
    if new.at_free:
        if len(new.name) > MOST_NAME:
            raise NameTooLong("the new name is too long")
    elif _is_directory(tree, old.number):
        if not _is_directory(tree, new.number):
            raise NotDirectory("a directory replaces directories alone")
        if entries_of(tree.node(new.number)):
            raise NotEmpty("the directory that would be replaced has entries")
    elif _is_directory(tree, new.number):
        raise IsDirectory("a directory is replaced by directories alone")


def _take_new_name(tree, old, new, opened):
    """Move a node to its new name."""
    if new.at_free:
        # The place of the old name is free already when the new one gets its place.
        _clear_name(tree, old)
        _set_name(tree, new, old.number)
    else:
        _set_name(tree, new, old.number)
        _clear_name(tree, old)
        if _is_directory(tree, new.number):
            tree.drop(new.number)
        else:
            _lose_name(tree, new.number, opened)
    if _is_directory(tree, old.number):
        node = tree.changed(old.number)
        node.parent = new.directory


def _is_directory(tree, number):
    """Tell whether a node is a directory."""
    return tree.node(number).kind == "directory"


def _directories_above(tree, number):
    """Return the numbers of a directory and of all directories in which it lies."""
    found = [number]
    while found[-1] != ROOT_NUMBER:
        found.append(tree.node(found[-1]).parent)
    return found


def _refuse_directory_itself(way):
    """Raise an error if a way ends at a directory itself."""
    if way.at_directory and way.directory == ROOT_NUMBER:
        raise Busy("the root directory stays")
    if way.at_directory:
        raise InvalidMove("the path ends at a directory itself")


def _new_name_of_no_directory(tree, path):
    """Return the way to a new name for a node that is no directory."""
    way = plain_new_name(tree, path)
    if path.closed:
        raise NotDirectory("the path asks for a directory")
    return way


def _add_node(tree, way, node):
    """Add a node with a name, and return its number."""
    number = tree.insert_node(node)
    _set_name(tree, way, number)
    return number


def _set_name(tree, way, number):
    """Give the name at the end of a way a number."""
    set_entry(tree.changed(way.directory), way.name, number)


def _clear_name(tree, way):
    """Remove the name at the end of a way."""
    clear_entry(tree.changed(way.directory), way.name)


def _lose_name(tree, number, opened):
    """Let a node have one name less; without names it is there only as long as it is open."""
    node = tree.changed(number)
    node.links -= 1
    if node.links == 0 and number not in opened:
        tree.drop(number)
