"""Ways: where paths lead through directories and symbolic links."""

from segmentfs.errors import AlreadyExists, LinkLoop, NameTooLong, NotDirectory, NotFound
from segmentfs.names.paths import MOST_FOLLOWED, MOST_NAME, names_in
from segmentfs.nodes.directories import find_entry, link_text
from segmentfs.nodes.inodes import LINK
from segmentfs.nodes.nodes import ROOT_NUMBER


class Way:
    """The end of a way: a directory itself, or a free or taken name in a directory."""

    def __init__(self, directory, name, number):
        self.directory = directory
        self.name = name
        self.number = number

    @property
    def at_directory(self):
        """True if the way ends at the directory itself."""
        return self.name is None

    @property
    def at_free(self):
        """True if the way ends at a free name."""
        return self.number == 0

    @property
    def at_taken(self):
        """True if the way ends at a taken name."""
        return self.name is not None and self.number != 0


def follow(nodes, path, *, follow_last):
    """Return the way along a path."""
    at = ROOT_NUMBER
    names = list(path.parts)
    followed = 0
    while names:
        name = names.pop(0)
        inode = nodes.get(at)
        if not inode.is_directory:
            raise NotDirectory(f"there is no directory ahead of the name {name}")
        if name in (".", ".."):
            at = at if name == "." else inode.parent
            continue
        number = find_entry(nodes, at, name)
        if number == 0 and names:
            raise NotFound(f"there is no {name}")
        if number != 0 and nodes.get(number).kind == LINK and (names or follow_last or path.closed):
            if followed == MOST_FOLLOWED:
                raise LinkLoop(f"more than {MOST_FOLLOWED} links would be followed")
            followed += 1
            text = link_text(nodes, number)
            names = names_in(text) + names
            at = ROOT_NUMBER if text.startswith("/") else at
        elif names:
            at = number
        else:
            return Way(at, name, number)
    return Way(at, None, at)


def node_at(nodes, path, *, follow_last):
    """Return the number of the node at a path."""
    way = follow(nodes, path, follow_last=follow_last)
    if way.at_free:
        raise NotFound(f"there is no {way.name}")
    if path.closed and not nodes.get(way.number).is_directory:
        raise NotDirectory(f"{way.name} is no directory")
    return way.number


def new_name_at(nodes, path):
    """Return the way to a new name at a path."""
    way = follow(nodes, path, follow_last=False)
    if not way.at_free:
        raise AlreadyExists("the name is taken already")
    if len(way.name) > MOST_NAME:
        raise NameTooLong(f"a name has at most {MOST_NAME} characters")
    return way
