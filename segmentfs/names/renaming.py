"""Renaming: a node gets another name, perhaps in another directory."""

from segmentfs.errors import InvalidMove, IsDirectory, NameTooLong, NotDirectory, NotEmpty, NotFound
from segmentfs.names.changes import refuse_directory_itself, release_name
from segmentfs.names.paths import MOST_NAME, read_path
from segmentfs.names.ways import follow
from segmentfs.nodes.directories import add_entry, change_entry, entries, remove_entry
from segmentfs.nodes.nodes import ROOT_NUMBER, drop_node


def rename(nodes, text, new_text, opened):
    """Give the node at a path another name, which may be that of a node that is replaced."""
    path = read_path(text)
    new_path = read_path(new_text)
    old = _old_name_at(nodes, path)
    new = follow(nodes, new_path, follow_last=False)
    refuse_directory_itself(new)
    moves_directory = nodes.get(old.number).is_directory
    if moves_directory and lies_below(nodes, new.directory, old.number):
        raise InvalidMove("a directory cannot be moved below itself")
    if new_path.closed and not moves_directory:
        raise NotDirectory(f"{old.name} is no directory")
    if new.number == old.number:
        return
    if new.at_free:
        _move_entry(nodes, old, new)
    else:
        _replace(nodes, old, new, opened)
    if moves_directory and new.directory != old.directory:
        inode = nodes.get(old.number)
        inode.parent = new.directory
        nodes.put(old.number, inode)


def lies_below(nodes, number, other):
    """Tell whether a directory is another one or lies below it."""
    at = number
    while at not in (other, ROOT_NUMBER):
        at = nodes.get(at).parent
    return at == other


def _old_name_at(nodes, path):
    """Return the way to the node that is renamed."""
    way = follow(nodes, path, follow_last=False)
    refuse_directory_itself(way)
    if way.at_free:
        raise NotFound(f"there is no {way.name}")
    if path.closed and not nodes.get(way.number).is_directory:
        raise NotDirectory(f"{way.name} is no directory")
    return way


def _move_entry(nodes, old, new):
    """Move the entry of a node to a free name."""
    if len(new.name) > MOST_NAME:
        raise NameTooLong(f"a name has at most {MOST_NAME} characters")
    remove_entry(nodes, old.directory, old.name)
    add_entry(nodes, new.directory, new.name, old.number)


def _replace(nodes, old, new, opened):
    """Give the name of another node to the renamed one."""
    replaces_directory = nodes.get(new.number).is_directory
    if nodes.get(old.number).is_directory:
        if not replaces_directory:
            raise NotDirectory(f"{new.name} is no directory")
        if entries(nodes, new.number):
            raise NotEmpty(f"{new.name} has entries")
    elif replaces_directory:
        raise IsDirectory(f"{new.name} is a directory")
    change_entry(nodes, new.directory, new.name, old.number)
    remove_entry(nodes, old.directory, old.name)
    if replaces_directory:
        drop_node(nodes, new.number)
    else:
        release_name(nodes, new.number, opened)
