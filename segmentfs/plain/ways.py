"""Ways in plain trees: where paths lead, and what lies below a node."""

from segmentfs.errors import AlreadyExists, LinkLoop, NameTooLong, NotDirectory, NotFound
from segmentfs.names.paths import MOST_FOLLOWED, MOST_NAME, names_in
from segmentfs.names.ways import Way
from segmentfs.nodes.nodes import ROOT_NUMBER
from segmentfs.plain.nodes import entries_of, find_in


def plain_follow(tree, path, *, follow_last):
    """Return the way along a path."""
    at = ROOT_NUMBER
    left = list(path.parts)
    links_left = MOST_FOLLOWED
    while left:
        directory = tree.node(at)
        if directory.kind != "directory":
            raise NotDirectory("a name follows that of no directory")
        name = left[0]
        left = left[1:]
        number = _number_behind(at, directory, name)
        if number == 0:
            return _free_end(at, name, left)
        node = tree.node(number)
        if node.kind == "link" and (left or follow_last or path.closed):
            if links_left == 0:
                raise LinkLoop("too many links would be followed")
            links_left -= 1
            left = names_in(node.text) + left
            if node.text.startswith("/"):
                at = ROOT_NUMBER
        elif left or name in (".", ".."):
            at = number
        else:
            return Way(at, name, number)
    return Way(at, None, at)


def plain_node_at(tree, path, *, follow_last):
    """Return the number of the node at a path."""
    way = plain_follow(tree, path, follow_last=follow_last)
    if way.at_free:
        raise NotFound("there is no such node")
    if path.closed and tree.node(way.number).kind != "directory":
        raise NotDirectory("the path asks for a directory")
    return way.number


def plain_new_name(tree, path):
    """Return the way to a new name at a path."""
    way = plain_follow(tree, path, follow_last=False)
    if not way.at_free:
        raise AlreadyExists("the name is taken already")
    if len(way.name) > MOST_NAME:
        raise NameTooLong("the new name is too long")
    return way


def plain_ways(tree, number):
    """Return the way and the number of a node and of each node below it, in the order of ways."""
    found = []
    waiting = [((), number)]
    while waiting:
        way, at = waiting.pop()
        found.append((way, at))
        below = entries_of(tree.node(at))
        waiting.extend([(way + (name,), target) for name, target in below[::-1]])
    return found


def _number_behind(at, directory, name):
    """Return the number to which a name leads from a directory, or 0."""
    if name == ".":
        return at
    if name == "..":
        return directory.parent
    return find_in(directory, name)


def _free_end(at, name, left):
    """Return the end of a way at a free name."""
    if left:
        raise NotFound("a name on the way is free")
    return Way(at, name, 0)
