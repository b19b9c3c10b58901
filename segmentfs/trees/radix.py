"""Trees of blocks: index blocks above the data blocks of a file."""

from segmentfs.device.block import DATA, NODE


def least_height(layout, number):
    """Return the least height of a tree that can have a data block with this number."""
    height = 0
    span = 1
    while number >= span:
        height += 1
        span = span * layout.fan
    return height


def span_of(layout, height):
    """Return how many numbers of data blocks a tree of this height has."""
    span = 1
    for _ in range(height):
        span = span * layout.fan
    return span


def block_id(store, file, number):
    """Return the id of the data block with this number, or 0 if there is none."""
    span = span_of(store.layout, file.height)
    if number >= span:
        return 0
    ident = file.root
    rest = number
    while span > 1 and ident != 0:
        span = span // store.layout.fan
        ident = store.get(ident)[1][rest // span]
        rest = rest % span
    return ident


def set_block(store, file, number, octets):
    """Set the data block with this number to the octets."""
    _raise_tree(store, file, least_height(store.layout, number))
    payload = (DATA, tuple(octets))
    ident = block_id(store, file, number)
    if ident != 0:
        store.put(ident, payload)
        return
    below = _put_new(store, payload)
    for parent, item in reversed(_way_to(store, file, number)):
        if parent != 0:
            _set_item(store, parent, item, below)
            return
        below = _put_new(store, _index_of(store.layout, item, below))
    file.root = below


def clear_blocks(store, file, start, end):
    """Clear the numbers from start to end - 1."""
    if end <= start:
        return
    span = span_of(store.layout, file.height)
    file.root = _clear_below(store, file.root, span, start, end)
    if file.root == 0:
        file.height = 0
    while file.height > 0 and not any(store.get(file.root)[1][1:]):
        former = file.root
        file.root = store.get(former)[1][0]
        file.height -= 1
        store.remove(former)


def walk_tree(store, file):
    """Yield the id, the level and the least number of each block, an index block ahead of what is below it."""
    waiting = []
    if file.root != 0:
        waiting.append((file.root, file.height, 0))
    while waiting:
        ident, level, first = waiting.pop()
        yield (ident, level, first)
        if level > 0:
            waiting.extend(children_of(store.layout, store.get(ident)[1], level, first)[::-1])


def least_number_from(store, file, number):
    """Return the least number of a data block from this number on, or None if there is none."""
    waiting = []
    if file.root != 0:
        waiting.append((file.root, file.height, 0))
    while waiting:
        ident, level, first = waiting.pop()
        if first + span_of(store.layout, level) <= number:
            continue
        if level == 0:
            return first
        waiting.extend(children_of(store.layout, store.get(ident)[1], level, first)[::-1])
    return None


def children_of(layout, items, level, first):
    """Return the id, the level and the least number of each block that the items of an index block lead to."""
    span = span_of(layout, level - 1)
    return [(item, level - 1, first + place * span) for place, item in enumerate(items) if item != 0]


def _raise_tree(store, file, height):
    """Put index blocks above the tree until it has this height."""
    while file.height < height:
        if file.root != 0:
            file.root = _put_new(store, _index_of(store.layout, 0, file.root))
        file.height += 1


def _way_to(store, file, number):
    """Return the index blocks on the way to a data block, each with the index of its item, from the root on.

    A missing index block has the id 0.
    """
    way = []
    ident = file.root
    span = span_of(store.layout, file.height)
    rest = number
    while span > 1:
        span = span // store.layout.fan
        item = rest // span
        way.append((ident, item))
        if ident != 0:
            ident = store.get(ident)[1][item]
        rest = rest % span
    return way


def _clear_below(store, ident, span, start, end):
    """Clear numbers in the tree below an id, and return the id, or 0 if no block of this tree is left."""
    if ident == 0 or start >= span or end <= 0:
        return ident
    if span == 1:
        store.remove(ident)
        return 0
    part = span // store.layout.fan
    former = store.get(ident)[1]
    items = []
    for place, item in enumerate(former):
        first = place * part
        items.append(_clear_below(store, item, part, start - first, end - first))
    if not any(items):
        store.remove(ident)
        return 0
    if tuple(items) != former:
        store.put(ident, (NODE, tuple(items)))
    return ident


def _put_new(store, payload):
    """Give a new id the payload, and return the id."""
    ident = store.new_id()
    store.put(ident, payload)
    return ident


def _index_of(layout, item, below):
    """Return the payload of an index block with one item that is not 0."""
    items = [0] * layout.fan
    items[item] = below
    return (NODE, tuple(items))


def _set_item(store, ident, item, below):
    """Set one item of an index block."""
    items = list(store.get(ident)[1])
    items[item] = below
    store.put(ident, (NODE, tuple(items)))
