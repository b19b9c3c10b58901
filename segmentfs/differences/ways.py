"""Ways from a node to the nodes below it."""

from segmentfs.nodes.directories import entries


def ways_below(nodes, number):
    """Yield the way and the number of a node and of each node below it, in the order of ways."""
    waiting = [((), number)]
    while waiting:
        way, at = waiting.pop()
        yield (way, at)
        if nodes.get(at).is_directory:
            waiting.extend([(way + (name,), below) for name, below in entries(nodes, at)[::-1]])


def path_of(way):
    """Return the text of a way."""
    return "".join(["/" + name for name in way])
