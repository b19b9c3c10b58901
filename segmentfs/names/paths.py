"""Paths, and the texts of symbolic links, as lists of names."""

from segmentfs.errors import InvalidPath, NameTooLong
from segmentfs.nodes.texts import is_text

MOST_NAME = 28
MOST_PATH = 200
MOST_NAMES = 16
MOST_FOLLOWED = 8
MOST_LINKS = 40


class Path:
    """The names of a path, and whether it asks for a directory at its end."""

    def __init__(self, parts, closed):
        self.parts = list(parts)
        self.closed = closed


def read_path(text):
    """Return the path that a string tells."""
    if len(text) > MOST_PATH:
        raise NameTooLong(f"a path has at most {MOST_PATH} characters")
    if not text.startswith("/") or not is_text(text):
        raise InvalidPath("a path is a text that begins with a slash")
    parts = names_in(text)
    if len(parts) > MOST_NAMES or any([len(part) > MOST_NAME for part in parts]):
        raise NameTooLong(f"a path has at most {MOST_NAMES} names of at most {MOST_NAME} characters")
    return Path(parts, len(parts) > 0 and text.endswith("/"))


def read_target(text):
    """Return the names in the text of a symbolic link."""
    if len(text) > MOST_PATH:
        raise NameTooLong(f"the text of a link has at most {MOST_PATH} characters")
    if text == "" or not is_text(text):
        raise InvalidPath("the text of a link is a text that is not empty")
    return names_in(text)


def names_in(text):
    """Return the parts between the slashes that are not empty."""
    return [part for part in text.split("/") if part != ""]
