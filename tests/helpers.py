"""What several test files need: layouts, blocks, and a runner for the document's examples."""

from segmentfs.device.block import COMMIT, DATA, MOVE, NODE, PART, stamped
from segmentfs.device.device import Device
from segmentfs.geometry.layout import Layout, address_at
from segmentfs.log.logs import Log

LEAST = Layout(4, 16, 64)
MIDDLE = Layout(7, 19, 128)
GREATEST = Layout(16, 32, 256)
LAYOUTS = (LEAST, MIDDLE, GREATEST)
# Python writes no integer of more than 4300 digits as a text, so no text of an error may tell it.
GREAT = 10 ** 5000


def data(layout, fill):
    """Return a payload of the kind DATA."""
    return (DATA, (fill,) * layout.block_size)


def node(layout, *ids):
    """Return a payload of the kind NODE with these ids first."""
    return (NODE, tuple(ids) + (0,) * (layout.fan - len(ids)))


def part(layout, sequence, rank=0, fill=0):
    """Return a block of the kind PART."""
    return (PART, sequence, rank, (fill,) * layout.fan)


def commit_block(sequence, ids=(), used=(), action=0):
    """Return the summary of a commit."""
    return (COMMIT, sequence, 0, (tuple(ids), tuple(used), action))


def move_block(sequence, addresses=()):
    """Return the summary of a move."""
    return (MOVE, sequence, 0, tuple(addresses))


def shown(device):
    """Return what is read at all addresses."""
    return [device.read(address) for address in range(device.layout.device_blocks)]


def table_of(layout, addresses):
    """Return a table with the addresses of a dict."""
    return [addresses.get(ident, 0) for ident in range(layout.last_id + 1)]


def known(log):
    """Return what a log knows, apart from the device and the counts."""
    slots = [None if slot is None else list(slot) for slot in log.slots]
    return (list(log.present), slots, log.head, log.place, list(log.queue), log.last_sequence, log.region)


def whole_state(log):
    """Return all that a call on a log can change."""
    return (known(log), log.counts.as_row(), shown(log.device), log.device.pending())


def live_log(layout, lives, *, sequences=None, head=0, place=None, queue=()):
    """Return a log whose segments have so many live blocks, at the places from 1 on.

    `sequences` tells the sequence number of the blocks of each segment. The ids follow the addresses.
    The place is the end of the segment of the head, unless another one is told.
    """
    log = Log(Device(layout))
    if sequences is None:
        sequences = [5] * layout.segments
    ident = 0
    for segment, live in enumerate(lives):
        for at in range(1, live + 1):
            ident += 1
            address = address_at(layout, segment, at)
            log.device.write(address, stamped(data(layout, ident % 256), sequences[segment], at))
            log.present[ident] = address
    log.device.barrier()
    log.head = head
    log.place = layout.segment_blocks if place is None else place
    log.queue = list(queue)
    log.last_sequence = max(sequences)
    return log


def run_example(test, text):
    """Run an example of the document: what follows a call is its value, or the error that it raises."""
    names = {}
    lines = text.strip().split("\n")
    for place, line in enumerate(lines):
        if line.startswith(">>> "):
            behind = lines[place + 1] if place + 1 < len(lines) else ""
            _run_line(test, line[4:], "" if behind.startswith(">>>") else behind, names)


def _run_line(test, code, expected, names):
    if expected.startswith("raises "):
        with test.assertRaises(ValueError, msg=code) as caught:
            exec(code, names)
        test.assertEqual(type(caught.exception).__name__, expected[7:], code)
    elif expected:
        test.assertEqual(repr(eval(code, names)), expected, code)
    else:
        test.assertIsNone(_value_of(code, names), code)


def _value_of(code, names):
    """Return the value of an expression, None for a statement."""
    try:
        compiled = compile(code, "example", "eval")
    except SyntaxError:
        exec(code, names)
        return None
    return eval(compiled, names)


def rounded_up(number, size):
    """Return the quotient, rounded up."""
    return -(-number // size)


class TreeModel:
    """A tree as point 68 tells it: an id for each pair of a level and the index of a block in this level.

    The block of a level l with the index k stands above the data blocks k * F ** l to (k + 1) * F ** l - 1.
    `used` is a set of ids that several trees share.
    """

    def __init__(self, layout, used):
        self.layout = layout
        self.used = used
        self.height = 0
        self.ids = {}
        self.data = {}

    def take(self, level, index):
        ident = 1
        while ident in self.used:
            ident += 1
        self.used.add(ident)
        self.ids[level, index] = ident

    def give_back(self, level, index):
        self.used.remove(self.ids.pop((level, index)))

    def least_height(self, number):
        height = 0
        while number >= self.layout.fan ** height:
            height += 1
        return height

    def set(self, number, octets):
        height = max(self.height, self.least_height(number))
        if self.ids:
            for level in range(self.height + 1, height + 1):
                self.take(level, 0)
        self.height = height
        self.data[number] = tuple(octets)
        for level in range(height + 1):
            if (level, number // self.layout.fan ** level) not in self.ids:
                self.take(level, number // self.layout.fan ** level)

    def clear(self, start, end):
        if end <= start:
            return
        for number in [number for number in self.data if start <= number < end]:
            del self.data[number]
        for level, index in list(self.ids):
            span = self.layout.fan ** level
            if not any(index * span <= number < (index + 1) * span for number in self.data):
                self.give_back(level, index)
        least = self.least_height(max(self.data)) if self.data else 0
        for level in range(least + 1, self.height + 1):
            if (level, 0) in self.ids:
                self.give_back(level, 0)
        self.height = least

    def root(self):
        return self.ids.get((self.height, 0), 0)

    def blocks(self):
        blocks = {}
        for (level, index), ident in self.ids.items():
            if level == 0:
                blocks[ident] = (DATA, self.data[index])
            else:
                first = index * self.layout.fan
                below = [self.ids.get((level - 1, first + k), 0) for k in range(self.layout.fan)]
                blocks[ident] = (NODE, tuple(below))
        return blocks

    def walk(self):
        rows = [(index * self.layout.fan ** level, -level, ident) for (level, index), ident in self.ids.items()]
        return [(ident, -level, first) for first, level, ident in sorted(rows)]


class FileModel:
    """A file as the points 72 to 77 tell it, over a TreeModel."""

    def __init__(self, layout, used):
        self.tree = TreeModel(layout, used)
        self.block_size = layout.block_size
        self.size = 0

    def octet(self, at):
        body = self.tree.data.get(at // self.block_size)
        return 0 if body is None else body[at % self.block_size]

    def read(self, at, count):
        return [self.octet(place) for place in range(at, min(at + count, self.size))]

    def set_octets(self, changes):
        """Set blocks for a dict from offsets to octets, in ascending order of the blocks."""
        for number in sorted(set(at // self.block_size for at in changes)):
            places = range(number * self.block_size, (number + 1) * self.block_size)
            self.tree.set(number, [changes.get(at, self.octet(at)) for at in places])

    def write(self, at, octets):
        self.set_octets({at + place: octet for place, octet in enumerate(octets)})
        if octets:
            self.size = max(self.size, at + len(octets))

    def truncate(self, size):
        if size < self.size:
            self.tree.clear(rounded_up(size, self.block_size), 2 ** 20)
            if size % self.block_size and size // self.block_size in self.tree.data:
                end = (size // self.block_size + 1) * self.block_size
                self.set_octets({at: 0 for at in range(size, end)})
        self.size = size

    def punch(self, start, end):
        if end <= start or start >= self.size:
            return
        behind = rounded_up(self.size, self.block_size) if end >= self.size else end // self.block_size
        self.tree.clear(rounded_up(start, self.block_size), behind)
        there = [at for at in range(start, min(end, self.size)) if at // self.block_size in self.tree.data]
        self.set_octets({at: 0 for at in there})

    def next_data(self, at):
        numbers = [number for number in self.tree.data if number >= at // self.block_size]
        if at >= self.size or not numbers:
            return None
        return max(at, min(numbers) * self.block_size)

    def next_hole(self, at):
        if at >= self.size:
            return None
        number = at // self.block_size
        while number in self.tree.data:
            number += 1
        return min(self.size, max(at, number * self.block_size))
