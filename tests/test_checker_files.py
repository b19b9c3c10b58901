"""Point 132: the faults of the files of a volume."""

import itertools
import random
import unittest

from helpers import GREATEST, LAYOUTS, LEAST, MIDDLE, data, node
from segmentfs.checker.files import files_fault
from segmentfs.checker.trees import tree_fault
from segmentfs.device.block import DATA, NODE
from segmentfs.nodes.inodes import DIRECTORY, FILE, LINK, Inode, decode_inode, encode_inode
from segmentfs.nodes.nodes import Nodes, drop_node, new_nodes, node_ids
from segmentfs.nodes.superblock import decode_superblock
from segmentfs.trees.files import PlainFile, block_numbers, file_ids, read_file, truncate_file, write_file
from segmentfs.trees.store import Store


def plain_fault(layout, blocks):
    """Return the fault as point 132 tells it, row by row."""
    if 1 not in blocks or blocks[1][0] != DATA:
        return ("no superblock", 1)
    superblock = decode_superblock(blocks[1][1])
    if superblock is None or superblock.size > 1048576:
        return ("no superblock", 1)
    fault = tree_fault(layout, blocks, superblock)
    if fault:
        return fault
    store = Store(layout, blocks)
    octets = read_file(store, superblock, at=0, count=superblock.size)
    rows = [octets[16 * number:16 * number + 16] for number in range(superblock.size // 16)]
    inodes = {}
    for number, row in enumerate(rows):
        if any(row):
            if number == 0 or decode_inode(row) is None:
                return ("no inode", number)
            inodes[number] = decode_inode(row)
    if superblock.size != (16 * max(inodes) + 16 if inodes else 0):
        return ("file of inodes of wrong size", superblock.size)
    for number in block_numbers(store, superblock):
        if not any(16 * other // layout.block_size == number for other in inodes):
            return ("block without inodes", number)
    for number in sorted(inodes):
        fault = tree_fault(layout, blocks, inodes[number])
        if fault:
            return fault
    ids = [1] + file_ids(store, superblock)
    for number in sorted(inodes):
        ids += file_ids(store, inodes[number])
    for place, ident in enumerate(ids):
        if ident in ids[place + 1:]:
            return ("block used twice", ident)
    unused = set(blocks) - set(ids)
    return ("block that nothing uses", min(unused)) if unused else None


def sound_nodes(layout=LEAST):
    """Return nodes with the numbers 1 to 9, some of which have blocks."""
    nodes = new_nodes(layout)
    for number in range(2, 10):
        inode = Inode((FILE, LINK, DIRECTORY)[number % 3])
        if number % 2:
            write_file(nodes.store, inode, at=number * 40, octets=[number] * 130)
        nodes.put(number, inode)
    return nodes


def set_octets(blocks, ident, changes):
    """Change octets of a data block, or items of an index block, at the places of a dict."""
    kind, body = blocks[ident]
    body = list(body)
    for place, octet in changes.items():
        body[place] = octet
    blocks[ident] = (kind, tuple(body))


def root_of(blocks, number):
    """Return the root of a node, and of the file of inodes for 0."""
    nodes = Nodes(LEAST, blocks)
    return nodes.superblock.root if number == 0 else nodes.get(number).root


def inode_block(blocks, number):
    """Return the id of the data block that holds an inode."""
    return blocks[root_of(blocks, 0)][1][number // 4]


def lose_superblock(blocks):
    set_octets(blocks, 1, {50: 1})


def lose_tree_of_inodes(blocks):
    del blocks[inode_block(blocks, 1)]


def spoil_inode(blocks):
    set_octets(blocks, inode_block(blocks, 6), {(16 * 6 + 12) % 64: 1})


def lengthen_inodes(blocks):
    set_octets(blocks, 1, {0: 176})


def lose_inodes_of_a_block(blocks):
    set_octets(blocks, inode_block(blocks, 4), {place: 0 for place in range(64)})


def spoil_file(blocks):
    del blocks[blocks[root_of(blocks, 3)][1][2]]


def share_block(blocks):
    first = blocks[root_of(blocks, 5)][1]
    other = blocks[root_of(blocks, 7)][1]
    place = next(place for place, item in enumerate(other) if item)
    former = next(item for item in first if item)
    set_octets(blocks, root_of(blocks, 7), {place: former})


def add_block(blocks):
    blocks[44] = data(LEAST, 1)


def sound_blocks():
    return dict(sound_nodes().store.blocks)


def expected_faults():
    """Return the faults that each of the changes makes alone."""
    blocks = sound_blocks()
    missing = blocks[root_of(blocks, 3)][1][2]
    shared = next(item for item in blocks[root_of(blocks, 5)][1] if item)
    return (
        (lose_superblock, ("no superblock", 1)),
        (lose_tree_of_inodes, ("no data block", inode_block(blocks, 1))),
        (spoil_inode, ("no inode", 6)),
        (lengthen_inodes, ("file of inodes of wrong size", 176)),
        (lose_inodes_of_a_block, ("block without inodes", 1)),
        (spoil_file, ("no data block", missing)),
        (share_block, ("block used twice", shared)),
        (add_block, ("block that nothing uses", 44)),
    )


class FilesFaultTest(unittest.TestCase):
    def check(self, blocks, expected, layout=LEAST):
        before = dict(blocks)
        self.assertEqual(files_fault(layout, blocks), expected)
        self.assertEqual(plain_fault(layout, blocks), expected)
        self.assertEqual(blocks, before)

    def test_no_fault(self):
        for layout in LAYOUTS:
            self.check(new_nodes(layout).store.blocks, None, layout)
            self.check(sound_nodes(layout).store.blocks, None, layout)

    def test_each_fault_alone(self):
        for change, expected in expected_faults():
            blocks = sound_blocks()
            change(blocks)
            self.check(blocks, expected)

    def test_two_faults_at_once(self):
        rows = expected_faults()
        for (change, expected), (other, _) in itertools.combinations(rows, 2):
            blocks = sound_blocks()
            # The later fault is made first, while the inodes can still be found.
            other(blocks)
            if change is spoil_inode and other is lose_inodes_of_a_block:
                set_octets(blocks, inode_block(blocks, 6), {44: 1})
            change(blocks)
            self.check(blocks, expected)

    def test_superblock_that_is_none(self):
        for block in (None, node(LEAST), node(LEAST, 2), data(LEAST, 1)):
            blocks = sound_blocks()
            del blocks[1]
            if block:
                blocks[1] = block
            self.check(blocks, ("no superblock", 1))
        self.check({}, ("no superblock", 1))

    def test_octets_of_the_superblock(self):
        for place in range(7, 64):
            blocks = sound_blocks()
            set_octets(blocks, 1, {place: 13})
            self.check(blocks, ("no superblock", 1))

    def test_size_of_the_file_of_inodes(self):
        blocks = {1: (DATA, (0, 0, 16) + (0,) * 61)}
        self.check(blocks, ("file of inodes of wrong size", 1048576))
        blocks = {1: (DATA, (1, 0, 16) + (0,) * 61)}
        self.check(blocks, ("no superblock", 1))
        blocks = {1: (DATA, (255,) * 4 + (0,) * 60)}
        self.check(blocks, ("no superblock", 1))

    def test_greatest_file_of_inodes(self):
        for layout in LAYOUTS:
            nodes = new_nodes(layout)
            nodes.put(65535, Inode(FILE))
            self.assertEqual(nodes.superblock.size, 1048576)
            self.check(nodes.store.blocks, None, layout)
            blocks = dict(nodes.store.blocks)
            set_octets(blocks, 1, {0: 1})
            self.check(blocks, ("no superblock", 1), layout)

    def test_no_numbers_at_all(self):
        # Whether there is a root directory is not asked here.
        self.check({1: data(LEAST, 0)}, None)
        blocks = {1: (DATA, (16,) + (0,) * 63)}
        self.check(blocks, ("file of inodes of wrong size", 16))
        nodes = Nodes(LEAST, {1: data(LEAST, 0)})
        nodes.put(2, Inode(FILE))
        self.check(nodes.store.blocks, None)

    def test_faults_of_the_file_of_inodes(self):
        blocks = sound_blocks()
        set_octets(blocks, 1, {4: 2})
        self.check(blocks, ("no index block", inode_block(blocks, 1)))
        blocks = sound_blocks()
        set_octets(blocks, 1, {0: 128})
        self.check(blocks, ("data block behind the end", 2))
        blocks = sound_blocks()
        set_octets(blocks, 1, {0: 159})
        set_octets(blocks, inode_block(blocks, 9), {31: 1})
        self.check(blocks, ("octets behind the end", 159))

    def test_superblock_within_the_file_of_inodes(self):
        self.check({1: (DATA, (32, 0, 0, 0, 0, 1) + (0,) * 58)}, ("no inode", 0))
        self.check({1: (DATA, (0, 1, 0, 0, 1, 2) + (0,) * 58), 2: node(LEAST, 0, 3, 0, 1),
                    3: (DATA, (1,) + (0,) * 63)}, ("no inode", 12))

    def test_number_0_is_no_inode(self):
        nodes = new_nodes(LEAST)
        blocks = dict(nodes.store.blocks)
        for octet, place in ((1, 0), (1, 15)):
            changed = dict(blocks)
            set_octets(changed, 2, {place: octet})
            self.check(changed, ("no inode", 0))
        nodes.put(0, Inode(FILE))
        self.check(nodes.store.blocks, ("no inode", 0))

    def test_octets_that_are_no_inode(self):
        for number in (1, 3, 4, 8, 9):
            for changes in ({0: 4}, {0: 255}, {0: 0}, {12: 1}, {15: 255}):
                blocks = sound_blocks()
                start = 16 * number % 64
                changes = {start + place: octet for place, octet in changes.items()}
                set_octets(blocks, inode_block(blocks, number), changes)
                self.check(blocks, ("no inode", number))

    def test_least_number_that_is_no_inode(self):
        blocks = sound_blocks()
        for number in (8, 5, 6):
            set_octets(blocks, inode_block(blocks, number), {16 * number % 64 + 13: 1})
        self.check(blocks, ("no inode", 5))

    def test_octets_of_an_inode_that_the_size_cuts(self):
        # The last inode has the octets 144 to 159; it is not below the size divided by 16.
        blocks = sound_blocks()
        set_octets(blocks, 1, {0: 156})
        self.check(blocks, ("file of inodes of wrong size", 156))
        set_octets(blocks, inode_block(blocks, 9), {16: 77})
        self.check(blocks, ("file of inodes of wrong size", 156))

    def test_file_of_inodes_that_is_too_long_or_too_short(self):
        nodes = new_nodes(LEAST)
        for size, fault in ((33, 33), (47, 47), (48, 48), (64, 64), (65, 65), (5000, 5000), (32, None)):
            truncate_file(nodes.store, nodes.superblock, size)
            nodes.set_snapshot_name(0, None)
            self.check(nodes.store.blocks, fault and ("file of inodes of wrong size", fault))
        for size in (1, 15, 16, 26):
            blocks = dict(nodes.store.blocks)
            set_octets(blocks, 1, {0: size})
            self.check(blocks, ("octets behind the end", size))
            set_octets(blocks, 2, {place: 0 for place in range(16, 64)})
            self.check(blocks, ("file of inodes of wrong size", size))

    def test_block_without_inodes(self):
        for layout in LAYOUTS:
            per_block = layout.block_size // 16
            nodes = new_nodes(layout)
            nodes.put(5 * per_block, Inode(FILE))
            self.check(nodes.store.blocks, None, layout)
            for number in (4, 2):
                write_file(nodes.store, nodes.superblock, at=number * layout.block_size, octets=[0])
                nodes.set_snapshot_name(0, None)
                self.check(nodes.store.blocks, ("block without inodes", number), layout)

    def test_faults_of_nodes(self):
        nodes = sound_nodes()
        for number, size in ((9, 450), (3, 200)):
            inode = nodes.get(number)
            inode.size = size
            nodes.put(number, inode)
            self.check(nodes.store.blocks, ("octets behind the end", size))
        nodes = sound_nodes()
        nodes.put(4, Inode(FILE, height=3))
        self.check(nodes.store.blocks, ("tree too high", 0))
        nodes.put(2, Inode(FILE, size=5, root=44))
        self.check(nodes.store.blocks, ("no data block", 44))

    def test_nodes_of_all_kinds_are_looked_at(self):
        for kind in (FILE, DIRECTORY, LINK):
            nodes = new_nodes(LEAST)
            nodes.put(2, Inode(kind, size=64, root=40))
            self.check(nodes.store.blocks, ("no data block", 40))
            nodes.store.put(40, data(LEAST, 1))
            self.check(nodes.store.blocks, None)

    def test_block_of_two_nodes(self):
        nodes = new_nodes(LEAST)
        nodes.store.put(30, data(LEAST, 1))
        nodes.store.put(31, data(LEAST, 1))
        for number, root in ((2, 30), (3, 31), (4, 31), (5, 30)):
            nodes.put(number, Inode(FILE, size=64, root=root))
        # Both occur again, and 30 comes first in the list.
        self.check(nodes.store.blocks, ("block used twice", 30))

    def test_first_id_that_occurs_again_need_not_be_the_first_repeated_one(self):
        nodes = new_nodes(LEAST)
        nodes.store.put(31, data(LEAST, 1))
        nodes.store.put(30, data(LEAST, 1))
        for number, root in ((2, 31), (3, 30), (4, 30), (5, 31)):
            nodes.put(number, Inode(FILE, size=64, root=root))
        self.check(nodes.store.blocks, ("block used twice", 31))

    def test_superblock_and_inodes_within_nodes(self):
        nodes = new_nodes(LEAST)
        nodes.put(2, Inode(FILE, size=64, root=1))
        self.check(nodes.store.blocks, ("block used twice", 1))
        nodes.put(2, Inode(FILE, size=64, root=2))
        self.check(nodes.store.blocks, ("block used twice", 2))

    def test_blocks_that_nothing_uses(self):
        for idents in ((3,), (44, 9), (65535,), (46, 45)):
            blocks = dict(new_nodes(LEAST).store.blocks)
            for ident in idents:
                blocks[ident] = node(LEAST, ident) if ident % 2 else data(LEAST, 1)
            self.check(blocks, ("block that nothing uses", min(idents)))

    def test_large_files_and_many_names_are_no_faults_here(self):
        nodes = new_nodes(LEAST)
        nodes.put(2, Inode(FILE, links=65535, size=2 ** 32 - 1, parent=9))
        self.check(nodes.store.blocks, None)

    def test_nodes_that_were_spoiled(self):
        seen = set()
        for seed in range(2500):
            chance = random.Random(seed)
            layout = (LEAST, MIDDLE, GREATEST)[seed % 3]
            nodes = sound_nodes(layout)
            for number in chance.sample(range(2, 10), chance.randrange(6)):
                drop_node(nodes, number)
            blocks = dict(nodes.store.blocks)
            for _ in range(chance.randrange(3)):
                self.spoil(chance, layout, nodes, blocks)
            fault = plain_fault(layout, blocks)
            seen.add(fault and fault[0])
            self.assertEqual(files_fault(layout, blocks), fault, seed)
        missing = {"no superblock", "no inode", "file of inodes of wrong size", "block used twice",
                   "block that nothing uses", "no data block", "octets behind the end", None} - seen
        self.assertEqual(missing, set())

    def spoil(self, chance, layout, nodes, blocks):
        draw = chance.random()
        ident = chance.choice(sorted(blocks)) if blocks else 1
        if draw < 0.1:
            blocks.pop(ident, None)
        elif draw < 0.2:
            blocks[chance.randrange(1, 40)] = data(layout, chance.randrange(4))
        elif draw < 0.4:
            number = chance.randrange(12)
            inode = Inode(chance.randrange(1, 4), 1, chance.choice((0, 64, 300)), chance.randrange(2), ident)
            write_file(nodes.store, nodes.superblock, at=16 * number, octets=encode_inode(inode))
            nodes.set_snapshot_name(1, None)
            blocks.update(nodes.store.blocks)
        elif draw < 0.5 and 1 in blocks:
            set_octets(blocks, 1, {0: chance.randrange(256)})
        elif ident in blocks:
            kind, body = blocks[ident]
            place = chance.randrange(len(body))
            set_octets(blocks, ident, {place: chance.choice((0, 1, 2, ident if kind == NODE else 13))})


class FilesOfNodesTest(unittest.TestCase):
    def test_files_of_several_levels(self):
        for layout in LAYOUTS:
            nodes = new_nodes(layout)
            for number in range(2, 8):
                inode = Inode(FILE)
                write_file(nodes.store, inode, at=1048576 - 3 * number, octets=[1] * number)
                write_file(nodes.store, inode, at=number ** 6, octets=[1] * number)
                nodes.put(number, inode)
            self.assertIsNone(files_fault(layout, nodes.store.blocks))
            self.assertEqual(sorted(node_ids(nodes)), sorted(nodes.store.blocks))

    def test_plain_file_is_no_node(self):
        nodes = new_nodes(LEAST)
        write_file(nodes.store, PlainFile(), at=0, octets=[1])
        self.assertEqual(files_fault(LEAST, nodes.store.blocks), ("block that nothing uses", 3))


if __name__ == "__main__":
    unittest.main()
