"""Point 131: the faults of a file."""

import itertools
import random
import unittest

from helpers import GREATEST, LAYOUTS, LEAST, MIDDLE, data, node, rounded_up
from segmentfs.checker.trees import tree_fault
from segmentfs.device.block import DATA, NODE
from segmentfs.nodes.inodes import Inode
from segmentfs.nodes.superblock import Superblock
from segmentfs.trees.files import PlainFile, punch_file, truncate_file, write_file
from segmentfs.trees.store import Store


def plain_fault(layout, blocks, file):
    """Return the fault as point 131 tells it, by recursion."""
    seen = {}

    def look(ident, level, first):
        if ident in seen:
            return ("block used twice", ident)
        kind = blocks.get(ident, (None,))[0]
        if level == 0 and kind != DATA:
            return ("no data block", ident)
        if level > 0 and kind != NODE:
            return ("no index block", ident)
        if level > 0 and set(blocks[ident][1]) == {0}:
            return ("index block without blocks", ident)
        seen[ident] = (level, first)
        for place, item in enumerate(blocks[ident][1] if level else ()):
            fault = look(item, level - 1, first * layout.fan + place) if item else None
            if fault:
                return fault
        return None

    fault = look(file.root, file.height, 0) if file.root else None
    if fault:
        return fault
    numbers = {first: ident for ident, (level, first) in seen.items() if level == 0}
    height = 0
    while numbers and layout.fan ** height <= max(numbers):
        height += 1
    if file.height != height:
        return ("tree too high", file.root)
    behind = [number for number in numbers if number >= rounded_up(file.size, layout.block_size)]
    if behind:
        return ("data block behind the end", min(behind))
    last = numbers.get(file.size // layout.block_size)
    if last is not None and any(blocks[last][1][file.size % layout.block_size:]):
        return ("octets behind the end", file.size)
    return None


# The blocks of a sound file of the least layout: 2 and 3 lie below the root 1, and 4 to 7 below these.
def sound_blocks():
    return {
        1: node(LEAST, 2, 3), 2: node(LEAST, 4, 0, 5), 3: node(LEAST, 6, 7),
        4: data(LEAST, 1), 5: data(LEAST, 2), 6: data(LEAST, 3), 7: (DATA, (4,) * 10 + (0,) * 54),
    }


def sound_file():
    # The block 7 has the number 33.
    return PlainFile(33 * 64 + 10, 2, 1)


def use_twice(blocks, file):
    blocks[2] = node(LEAST, 4, 4, 5)


def lose_data(blocks, file):
    del blocks[5]


def lose_index(blocks, file):
    del blocks[3]


def empty_index(blocks, file):
    blocks[3] = node(LEAST)


def shorten(blocks, file):
    file.size -= 64


def spoil_end(blocks, file):
    blocks[7] = (DATA, (4,) * 11 + (0,) * 53)


ALONE = (
    (use_twice, ("block used twice", 4)), (lose_data, ("no data block", 5)), (lose_index, ("no index block", 3)),
    (empty_index, ("index block without blocks", 3)), (shorten, ("data block behind the end", 33)),
    (spoil_end, ("octets behind the end", 33 * 64 + 10)),
)


class TreeFaultTest(unittest.TestCase):
    def check(self, blocks, file, expected, layout=LEAST):
        before = dict(blocks)
        row = (file.size, file.height, file.root)
        self.assertEqual(tree_fault(layout, blocks, file), expected)
        self.assertEqual(plain_fault(layout, blocks, file), expected)
        self.assertEqual((blocks, (file.size, file.height, file.root)), (before, row))

    def test_no_fault(self):
        self.check(sound_blocks(), sound_file(), None)

    def test_each_fault_alone(self):
        for change, expected in ALONE:
            blocks, file = sound_blocks(), sound_file()
            change(blocks, file)
            self.check(blocks, file, expected)

    def test_two_faults_at_once(self):
        # The block 4 comes ahead of 5, this one ahead of 3, and all of them ahead of the end of the file.
        for (change, expected), (other, _) in itertools.combinations(ALONE, 2):
            if (change, other) == (lose_index, empty_index):
                # The second one puts the block back.
                continue
            blocks, file = sound_blocks(), sound_file()
            change(blocks, file)
            other(blocks, file)
            fault = tree_fault(LEAST, blocks, file)
            self.assertEqual(fault, plain_fault(LEAST, blocks, file))
            self.assertEqual(fault, expected, (change.__name__, other.__name__))

    def test_file_without_blocks(self):
        for layout in LAYOUTS:
            for size in (0, 1, 1048576, 2 ** 32 - 1):
                self.check({1: data(layout, 1)}, PlainFile(size), None, layout)
            for height in (1, 2, 255):
                self.check({}, PlainFile(0, height), ("tree too high", 0), layout)

    def test_file_of_one_block(self):
        for layout in LAYOUTS:
            size = layout.block_size
            blocks = {9: data(layout, 7)}
            self.check(blocks, PlainFile(size, 0, 9), None, layout)
            self.check(blocks, PlainFile(size + 1, 0, 9), None, layout)
            self.check(blocks, PlainFile(size - 1, 0, 9), ("octets behind the end", size - 1), layout)
            self.check(blocks, PlainFile(1, 0, 9), ("octets behind the end", 1), layout)
            self.check(blocks, PlainFile(0, 0, 9), ("data block behind the end", 0), layout)
            self.check({9: (DATA, (0,) * size)}, PlainFile(1, 0, 9), None, layout)
            self.check({9: (DATA, (0,) * size)}, PlainFile(0, 0, 9), ("data block behind the end", 0), layout)

    def test_last_octets_of_the_last_block(self):
        for layout in LAYOUTS:
            for size in (1, layout.block_size - 1):
                for place in (0, size - 1, size, layout.block_size - 1):
                    body = [0] * layout.block_size
                    body[place] = 1
                    expected = ("octets behind the end", size) if place >= size else None
                    self.check({3: (DATA, tuple(body))}, PlainFile(size, 0, 3), expected, layout)

    def test_size_within_a_hole(self):
        blocks = {1: node(LEAST, 2), 2: data(LEAST, 1)}
        blocks[1] = node(LEAST, 2, 0, 3)
        blocks[3] = data(LEAST, 9)
        self.check(blocks, PlainFile(192, 1, 1), None)
        self.check(blocks, PlainFile(129, 1, 1), ("octets behind the end", 129))
        self.check(blocks, PlainFile(128, 1, 1), ("data block behind the end", 2))
        self.check(blocks, PlainFile(65, 1, 1), ("data block behind the end", 2))
        self.check(blocks, PlainFile(64, 1, 1), ("data block behind the end", 2))
        self.check(blocks, PlainFile(0, 1, 1), ("data block behind the end", 0))

    def test_least_number_behind_the_end(self):
        blocks = {1: node(LEAST, *range(2, 34))}
        blocks.update({ident: data(LEAST, 0) for ident in range(2, 34)})
        for size in (0, 1, 64, 65, 640, 2047):
            end = rounded_up(size, 64)
            expected = ("data block behind the end", end) if end < 32 else None
            self.check(blocks, PlainFile(size, 1, 1), expected)

    def test_roots_of_the_wrong_kind(self):
        blocks = {1: data(LEAST, 1), 2: node(LEAST, 1), 3: node(LEAST)}
        self.check(blocks, PlainFile(64, 0, 2), ("no data block", 2))
        self.check(blocks, PlainFile(64, 0, 3), ("no data block", 3))
        self.check(blocks, PlainFile(64, 0, 4), ("no data block", 4))
        self.check(blocks, PlainFile(64, 1, 1), ("no index block", 1))
        self.check(blocks, PlainFile(64, 1, 4), ("no index block", 4))
        self.check(blocks, PlainFile(64, 1, 3), ("index block without blocks", 3))

    def test_blocks_of_the_wrong_kind(self):
        blocks = sound_blocks()
        blocks[6] = node(LEAST, 4)
        self.check(blocks, sound_file(), ("no data block", 6))
        blocks = sound_blocks()
        blocks[2] = data(LEAST, 0)
        self.check(blocks, sound_file(), ("no index block", 2))

    def test_used_twice_goes_first_of_one_block(self):
        # The block 2 is met again as a data block of itself.
        blocks = {1: node(LEAST, 2, 3), 2: node(LEAST, 2)}
        self.check(blocks, PlainFile(64, 2, 1), ("block used twice", 2))
        blocks = {1: node(LEAST, 1)}
        self.check(blocks, PlainFile(64, 1, 1), ("block used twice", 1))
        blocks = {1: node(LEAST, 2, 2), 2: data(LEAST, 1)}
        self.check(blocks, PlainFile(128, 1, 1), ("block used twice", 2))

    def test_circle(self):
        blocks = {ident: node(LEAST, ident + 1) for ident in range(1, 9)}
        blocks[9] = node(LEAST, 4)
        self.check(blocks, PlainFile(64, 255, 1), ("block used twice", 4))

    def test_order_of_the_look(self):
        # An index block comes ahead of what is below it, and that ahead of the next item.
        blocks = {1: node(LEAST, 2, 3), 2: node(LEAST, 4), 3: node(LEAST, 5)}
        self.check(blocks, PlainFile(64, 2, 1), ("no data block", 4))
        blocks[4] = data(LEAST, 1)
        self.check(blocks, PlainFile(64, 2, 1), ("no data block", 5))
        blocks[3] = node(LEAST)
        self.check(blocks, PlainFile(64, 2, 1), ("index block without blocks", 3))
        del blocks[4]
        self.check(blocks, PlainFile(64, 2, 1), ("no data block", 4))
        blocks[1] = node(LEAST, 0, 3, 2)
        self.check(blocks, PlainFile(64, 2, 1), ("index block without blocks", 3))

    def test_tree_too_high(self):
        for layout in LAYOUTS:
            blocks = {1: node(layout, 2), 2: data(layout, 1)}
            self.check(blocks, PlainFile(layout.block_size, 1, 1), ("tree too high", 1), layout)
            blocks = {5: node(layout, 0, 2), 2: data(layout, 1)}
            self.check(blocks, PlainFile(2 * layout.block_size, 1, 5), None, layout)
            blocks[6] = node(layout, 5)
            self.check(blocks, PlainFile(2 * layout.block_size, 2, 6), ("tree too high", 6), layout)
            blocks[6] = node(layout, 0, 5)
            self.check(blocks, PlainFile(2 ** 20, 2, 6), None, layout)

    def test_greatest_heights(self):
        for layout in LAYOUTS:
            blocks = {ident: node(layout, ident + 1) for ident in range(1, 256)}
            blocks[256] = data(layout, 1)
            self.check(blocks, PlainFile(64, 255, 1), ("tree too high", 1), layout)
            blocks[1] = node(layout, 0, 2)
            self.check(blocks, PlainFile(64, 255, 1), ("data block behind the end", layout.fan ** 254), layout)
            blocks[1] = node(layout, *[0] * (layout.fan - 1), 2)
            number = (layout.fan - 1) * layout.fan ** 254
            self.check(blocks, PlainFile(2 ** 32 - 1, 255, 1), ("data block behind the end", number), layout)
            file = PlainFile((number + 1) * layout.block_size, 255, 1)
            self.check(blocks, file, None, layout)

    def test_too_high_goes_ahead_of_the_end(self):
        blocks = {1: node(LEAST, 2), 2: data(LEAST, 1)}
        self.check(blocks, PlainFile(0, 1, 1), ("tree too high", 1))
        self.check(blocks, PlainFile(3, 1, 1), ("tree too high", 1))

    def test_behind_the_end_goes_ahead_of_octets(self):
        blocks = {1: node(LEAST, 2, 3), 2: data(LEAST, 1), 3: data(LEAST, 1)}
        self.check(blocks, PlainFile(3, 1, 1), ("data block behind the end", 1))

    def test_ids_behind_those_of_the_layout(self):
        self.check({65535: data(LEAST, 1)}, PlainFile(64, 0, 65535), None)

    def test_other_objects_are_files_too(self):
        blocks = {4: data(LEAST, 1)}
        self.check(blocks, Inode(1, size=65, root=4), None)
        self.check(blocks, Superblock(63, 0, 4, [None] * 3), ("octets behind the end", 63))

    def test_blocks_that_the_file_does_not_use(self):
        blocks = sound_blocks()
        blocks[40] = node(LEAST)
        blocks[41] = node(LEAST, 1, 41)
        self.check(blocks, sound_file(), None)

    def test_files_that_were_written(self):
        for seed in range(30):
            chance = random.Random(seed)
            layout = (LEAST, MIDDLE, GREATEST)[seed % 3]
            store = Store(layout, {})
            file = PlainFile()
            for _ in range(12):
                at = chance.choice((chance.randrange(400), chance.randrange(1048000)))
                draw = chance.random()
                if draw < 0.6:
                    write_file(store, file, at=at, octets=[5] * chance.randrange(200))
                elif draw < 0.8:
                    truncate_file(store, file, at)
                else:
                    punch_file(store, file, start=at, end=at + chance.randrange(5000))
                self.check(store.blocks, file, None, layout)

    def test_files_that_were_spoiled(self):
        seen = set()
        for seed in range(1500):
            chance = random.Random(seed)
            store = Store(LEAST, {})
            file = PlainFile()
            for _ in range(chance.randrange(1, 5)):
                at = chance.choice((chance.randrange(300), chance.randrange(5000), chance.randrange(1048000)))
                write_file(store, file, at=at, octets=[5] * chance.randrange(1, 200))
            blocks = dict(store.blocks)
            for _ in range(chance.randrange(3)):
                self.spoil(chance, blocks, file)
            fault = plain_fault(LEAST, blocks, file)
            seen.add(fault and fault[0])
            self.assertEqual(tree_fault(LEAST, blocks, file), fault, seed)
        self.assertEqual(len(seen), 8)

    def spoil(self, chance, blocks, file):
        draw = chance.random()
        ident = chance.choice(sorted(blocks))
        if draw < 0.1:
            del blocks[ident]
            blocks.setdefault(1, data(LEAST, 0))
        elif draw < 0.2:
            file.size = max(0, file.size + chance.choice((-1000, -64, -1, 1, 64)))
        elif draw < 0.3:
            file.height = max(0, file.height + chance.choice((-1, 1, 9)))
        elif draw < 0.4:
            file.root = chance.choice((0, ident))
        elif draw < 0.5:
            blocks[ident] = chance.choice((data(LEAST, 1), node(LEAST), node(LEAST, chance.randrange(9))))
        elif draw < 0.6:
            blocks[99] = node(LEAST, file.root)
            file.root = 99
            file.height += 1
        else:
            body = list(blocks[ident][1])
            body[chance.randrange(len(body))] = chance.choice((0, ident, chance.randrange(12)))
            blocks[ident] = (blocks[ident][0], tuple(body))


if __name__ == "__main__":
    unittest.main()
