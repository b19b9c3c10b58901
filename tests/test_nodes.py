"""Points 83 to 86: the file of inodes and the nodes of a volume in memory."""

import random
import unittest

from helpers import GREATEST, LAYOUTS, LEAST, MIDDLE, FileModel, data
from segmentfs.checker.files import files_fault
from segmentfs.device.block import DATA
from segmentfs.nodes.inodes import DIRECTORY, FILE, LINK, Inode, encode_inode
from segmentfs.nodes.nodes import Nodes, drop_node, new_nodes, node_ids
from segmentfs.nodes.superblock import Superblock, encode_superblock
from segmentfs.trees.files import file_ids, read_file, write_file
from segmentfs.trees.store import Store

FIELDS = ("kind", "links", "size", "height", "root", "parent")


def fields(inode):
    return None if inode is None else tuple(getattr(inode, name) for name in FIELDS)


def superblock_fields(nodes):
    superblock = nodes.superblock
    return (superblock.size, superblock.height, superblock.root, superblock.names)


class NodesModel:
    """Nodes as the points 83 to 86 tell them: a file of inodes, a file for each node, and the ids in use."""

    def __init__(self, layout):
        self.layout = layout
        self.used = {1}
        self.inodes = FileModel(layout, self.used)
        self.names = [None, None, None]
        self.rows = {}
        self.files = {}
        self.put(1, (DIRECTORY, 1, 0, 0, 0, 1))

    def put(self, number, row):
        """Put an inode; the size, the height and the root are those of the model of the node."""
        file = self.files.setdefault(number, FileModel(self.layout, self.used))
        self.rows[number] = row[:2] + (file.size, file.tree.height, file.tree.root()) + row[5:]
        self.inodes.write(16 * number, encode_inode(Inode(*self.rows[number])))

    def remove(self, number):
        block = 16 * number // self.layout.block_size
        del self.rows[number]
        if any(16 * other // self.layout.block_size == block for other in self.rows):
            self.inodes.set_octets({16 * number + place: 0 for place in range(16)})
        else:
            self.inodes.tree.clear(block, block + 1)
        self.inodes.size = 16 * (max(self.rows) + 1)

    def drop(self, number):
        self.files.pop(number).tree.clear(0, 2 ** 20)
        self.remove(number)

    def new_number(self):
        return min(set(range(1, len(self.rows) + 2)) - set(self.rows))

    def superblock(self):
        tree = self.inodes.tree
        return (self.inodes.size, tree.height, tree.root(), self.names)

    def blocks(self):
        blocks = {1: (DATA, encode_superblock(self.layout, Superblock(*self.superblock())))}
        blocks.update(self.inodes.tree.blocks())
        for number in self.rows:
            blocks.update(self.files[number].tree.blocks())
        return blocks

    def ids(self):
        walk = [1] + [row[0] for row in self.inodes.tree.walk()]
        for number in sorted(self.rows):
            walk += [row[0] for row in self.files[number].tree.walk()]
        return walk


class NewNodesTest(unittest.TestCase):
    def test_new_volume(self):
        for layout in LAYOUTS:
            nodes = new_nodes(layout)
            self.assertIs(nodes.layout, layout)
            self.assertIsInstance(nodes.store, Store)
            self.assertIsInstance(nodes.superblock, Superblock)
            self.assertEqual(superblock_fields(nodes), (32, 0, 2, [None] * 3))
            self.assertEqual(nodes.numbers_in_use(), [1])
            self.assertEqual(fields(nodes.get(1)), (2, 1, 0, 0, 0, 1))
            inode = [0] * 16 + [2, 1, 0, 0, 0, 0, 0, 0, 0, 0, 1] + [0] * 5
            blank = [0] * (layout.block_size - 7)
            self.assertEqual(nodes.store.blocks, {
                1: (DATA, tuple([32, 0, 0, 0, 0, 2, 0] + blank)),
                2: (DATA, tuple(inode + [0] * (layout.block_size - 32))),
            })
            self.assertEqual(node_ids(nodes), [1, 2])
            self.assertIsNone(files_fault(layout, nodes.store.blocks))

    def test_nodes_of_one_call_do_not_change_those_of_another(self):
        nodes = new_nodes(LEAST)
        nodes.set_snapshot_name(0, "a")
        nodes.put(2, Inode(FILE))
        self.assertEqual(new_nodes(LEAST).superblock.names, [None] * 3)
        self.assertEqual(new_nodes(LEAST).numbers_in_use(), [1])


class NodesTest(unittest.TestCase):
    def test_blocks_are_copied(self):
        blocks = dict(new_nodes(LEAST).store.blocks)
        before = dict(blocks)
        nodes = Nodes(LEAST, blocks)
        nodes.put(2, Inode(FILE))
        nodes.set_snapshot_name(1, "b")
        self.assertEqual(blocks, before)
        blocks.clear()
        self.assertEqual(nodes.numbers_in_use(), [1, 2])

    def test_nodes_of_the_same_blocks(self):
        nodes = new_nodes(LEAST)
        nodes.put(2, Inode(LINK, 2))
        nodes.set_snapshot_name(2, "c")
        again = Nodes(LEAST, nodes.store.blocks)
        self.assertEqual(superblock_fields(again), superblock_fields(nodes))
        self.assertEqual(fields(again.get(2)), fields(nodes.get(2)))

    def test_get(self):
        nodes = new_nodes(LEAST)
        nodes.put(5, Inode(FILE, 2, 100, 1, 9))
        self.assertEqual(fields(nodes.get(5)), (1, 2, 100, 1, 9, 0))
        # The number 0, a hole within a block, a hole of a whole block, and numbers behind the size.
        nodes.put(14, Inode(FILE))
        for number in (0, 4, 8, 11, 13, 15, 16, 400, 65535):
            self.assertIsNone(nodes.get(number), number)

    def test_number_0_is_never_in_use(self):
        nodes = new_nodes(LEAST)
        nodes.put(0, Inode(FILE))
        self.assertIsNone(nodes.get(0))
        self.assertEqual((nodes.numbers_in_use(), nodes.new_number()), ([1], 2))

    def test_got_inode_is_new(self):
        nodes = new_nodes(LEAST)
        nodes.get(1).links = 7
        self.assertEqual(nodes.get(1).links, 1)
        inode = Inode(FILE)
        nodes.put(2, inode)
        inode.links = 9
        self.assertEqual(nodes.get(2).links, 1)
        self.assertIsNot(nodes.get(2), nodes.get(2))

    def test_put(self):
        nodes = new_nodes(LEAST)
        self.assertIsNone(nodes.put(2, Inode(FILE)))
        self.assertIsNone(nodes.put(3, Inode(LINK)))
        self.assertEqual(superblock_fields(nodes), (64, 0, 2, [None] * 3))
        nodes.put(4, Inode(DIRECTORY, parent=1))
        self.assertEqual(superblock_fields(nodes), (80, 1, 3, [None] * 3))
        nodes.put(2, Inode(FILE, 40))
        self.assertEqual(fields(nodes.get(2)), (1, 40, 0, 0, 0, 0))
        self.assertEqual(superblock_fields(nodes), (80, 1, 3, [None] * 3))
        self.assertEqual([fields(nodes.get(number))[0] for number in (1, 2, 3, 4)], [2, 1, 3, 2])

    def test_numbers_beside_the_edge_of_a_block(self):
        for layout in LAYOUTS:
            nodes = new_nodes(layout)
            edge = layout.block_size // 16
            for number in range(2, edge):
                nodes.put(number, Inode(FILE))
            self.assertEqual((nodes.superblock.height, nodes.store.block_count), (0, 2))
            self.assertEqual((nodes.superblock.size, nodes.new_number()), (layout.block_size, edge))
            nodes.put(edge, Inode(FILE, 7))
            self.assertEqual((nodes.superblock.height, nodes.store.block_count), (1, 4))
            self.assertEqual((nodes.superblock.size, nodes.new_number()), (layout.block_size + 16, edge + 1))
            nodes.remove(edge)
            self.assertEqual((nodes.superblock.height, nodes.store.block_count), (0, 2))
            self.assertEqual((nodes.superblock.size, nodes.new_number()), (layout.block_size, edge))
            self.assertIsNone(nodes.get(edge))
            self.assertIsNone(files_fault(layout, nodes.store.blocks))

    def test_last_inode_of_a_block_is_taken_away(self):
        nodes = new_nodes(LEAST)
        for number in range(2, 13):
            nodes.put(number, Inode(FILE, number))
        for number in (4, 5, 6):
            nodes.remove(number)
            self.assertEqual(len(node_ids(nodes)), 6)
        nodes.remove(7)
        self.assertEqual(len(node_ids(nodes)), 5)
        self.assertEqual((nodes.numbers_in_use(), nodes.superblock.size), ([1, 2, 3, 8, 9, 10, 11, 12], 208))
        self.assertIsNone(files_fault(LEAST, nodes.store.blocks))
        self.assertEqual(nodes.new_number(), 4)
        nodes.put(4, Inode(FILE, 9))
        self.assertEqual((len(node_ids(nodes)), nodes.get(4).links, nodes.superblock.size), (6, 9, 208))

    def test_greatest_number_is_taken_away(self):
        nodes = new_nodes(LEAST)
        for number in (2, 3, 9, 10):
            nodes.put(number, Inode(FILE))
        nodes.remove(10)
        self.assertEqual((nodes.superblock.size, nodes.superblock.height), (160, 1))
        nodes.remove(9)
        self.assertEqual((nodes.superblock.size, nodes.superblock.height), (64, 0))
        nodes.remove(2)
        self.assertEqual(nodes.superblock.size, 64)
        nodes.remove(3)
        self.assertEqual(nodes.superblock.size, 32)
        self.assertEqual(nodes.store.blocks, new_nodes(LEAST).store.blocks)

    def test_number_is_given_again(self):
        nodes = new_nodes(LEAST)
        for number in range(2, 8):
            self.assertEqual(nodes.new_number(), number)
            nodes.put(number, Inode(FILE))
        nodes.remove(5)
        nodes.remove(3)
        self.assertEqual(nodes.new_number(), 3)
        nodes.put(3, Inode(LINK))
        self.assertEqual(nodes.new_number(), 5)
        self.assertEqual(nodes.new_number(), 5)
        nodes.put(5, Inode(LINK))
        self.assertEqual(nodes.new_number(), 8)

    def test_taking_an_inode_away_leaves_the_blocks_of_its_node(self):
        nodes = new_nodes(LEAST)
        inode = Inode(FILE)
        write_file(nodes.store, inode, at=0, octets=[1] * 100)
        nodes.put(2, inode)
        idents = file_ids(nodes.store, inode)
        nodes.remove(2)
        for ident in idents:
            self.assertIsNotNone(nodes.store.get(ident))
        self.assertEqual(files_fault(LEAST, nodes.store.blocks), ("block that nothing uses", min(idents)))

    def test_dropping_a_node(self):
        nodes = new_nodes(LEAST)
        nodes.put(2, Inode(FILE))
        before = dict(nodes.store.blocks)
        inode = Inode(FILE)
        write_file(nodes.store, inode, at=0, octets=[1] * 100)
        write_file(nodes.store, inode, at=1048000, octets=[1] * 100)
        nodes.put(3, inode)
        self.assertEqual(inode.height, 3)
        self.assertIsNone(drop_node(nodes, 3))
        self.assertEqual(nodes.numbers_in_use(), [1, 2])
        self.assertEqual(sorted(nodes.store.blocks), sorted(before))
        self.assertEqual(nodes.store.blocks, before)

    def test_dropping_a_node_leaves_the_others(self):
        nodes = new_nodes(LEAST)
        for number in (2, 3, 4):
            inode = Inode(FILE)
            write_file(nodes.store, inode, at=10 * number, octets=[number] * 100)
            nodes.put(number, inode)
        drop_node(nodes, 3)
        for number in (2, 4):
            octets = read_file(nodes.store, nodes.get(number), at=0, count=200)
            self.assertEqual(octets, [0] * 10 * number + [number] * 100)
        self.assertIsNone(files_fault(LEAST, nodes.store.blocks))

    def test_snapshot_names(self):
        nodes = new_nodes(LEAST)
        self.assertIsNone(nodes.set_snapshot_name(1, "monday"))
        self.assertEqual(superblock_fields(nodes), (32, 0, 2, [None, "monday", None]))
        nodes.set_snapshot_name(0, "a")
        nodes.set_snapshot_name(2, "abcdefghijkl")
        self.assertEqual(Nodes(LEAST, nodes.store.blocks).superblock.names, ["a", "monday", "abcdefghijkl"])
        nodes.set_snapshot_name(1, None)
        self.assertEqual(Nodes(LEAST, nodes.store.blocks).superblock.names, ["a", None, "abcdefghijkl"])
        for slot in (0, 2):
            nodes.set_snapshot_name(slot, None)
        self.assertEqual(nodes.store.blocks, new_nodes(LEAST).store.blocks)

    def test_names_stay_when_the_file_of_inodes_changes(self):
        nodes = new_nodes(LEAST)
        nodes.set_snapshot_name(1, "b")
        for number in range(2, 20):
            nodes.put(number, Inode(FILE))
        for number in range(2, 20):
            nodes.remove(number)
        self.assertEqual(superblock_fields(Nodes(LEAST, nodes.store.blocks))[3], [None, "b", None])

    def test_lists_are_new(self):
        nodes = new_nodes(LEAST)
        nodes.numbers_in_use().clear()
        node_ids(nodes).clear()
        self.assertEqual((nodes.numbers_in_use(), node_ids(nodes)), ([1], [1, 2]))


class ForkTest(unittest.TestCase):
    def test_fork_ahead_of_a_change(self):
        nodes = new_nodes(LEAST)
        nodes.put(2, Inode(FILE))
        nodes.set_snapshot_name(0, "a")
        twin = nodes.fork()
        before = dict(nodes.store.blocks)
        self.assertEqual((twin.store.blocks, superblock_fields(twin)), (before, superblock_fields(nodes)))
        inode = Inode(FILE)
        write_file(twin.store, inode, at=0, octets=[1] * 300)
        twin.put(2, inode)
        twin.put(3, Inode(FILE))
        twin.set_snapshot_name(0, None)
        twin.set_snapshot_name(1, "b")
        self.assertEqual((nodes.store.blocks, nodes.superblock.names), (before, ["a", None, None]))
        self.assertEqual((nodes.numbers_in_use(), nodes.new_number()), ([1, 2], 3))

    def test_change_behind_a_fork(self):
        nodes = new_nodes(MIDDLE)
        nodes.put(2, Inode(FILE))
        twin = nodes.fork()
        before = dict(twin.store.blocks)
        drop_node(nodes, 2)
        nodes.set_snapshot_name(2, "z")
        self.assertEqual((twin.store.blocks, twin.superblock.names), (before, [None] * 3))
        self.assertEqual(twin.numbers_in_use(), [1, 2])


class ModelTest(unittest.TestCase):
    """Random nodes against the model, block by block and id by id."""

    def test_random_nodes(self):
        for seed in range(24):
            self.check_steps(random.Random(seed), (LEAST, MIDDLE, GREATEST)[seed % 3])

    def check_steps(self, chance, layout):
        nodes = new_nodes(layout)
        model = NodesModel(layout)
        self.check(nodes, model)
        for _ in range(60):
            if chance.random() < 0.2:
                former = nodes
                before = dict(former.store.blocks)
                nodes = nodes.fork()
                self.step(chance, nodes, model)
                self.assertEqual(former.store.blocks, before)
            else:
                self.step(chance, nodes, model)
            self.check(nodes, model)

    def step(self, chance, nodes, model):
        draw = chance.random()
        others = [number for number in model.rows if number != 1]
        if draw < 0.4 or not others:
            row = (chance.choice((1, 2, 3)), chance.randrange(1, 41), 0, 0, 0, chance.randrange(99))
            number = nodes.new_number()
            self.assertEqual(number, model.new_number())
            nodes.put(number, Inode(*row))
            model.put(number, row)
        elif draw < 0.6:
            number = chance.choice(others)
            drop_node(nodes, number)
            model.drop(number)
        elif draw < 0.7:
            slot, name = chance.randrange(3), chance.choice((None, "a", "b-12"))
            nodes.set_snapshot_name(slot, name)
            model.names[slot] = name
        else:
            self.change_octets(chance, nodes, model)

    def change_octets(self, chance, nodes, model):
        number = chance.choice(sorted(model.rows))
        inode = nodes.get(number)
        at = chance.choice((chance.randrange(300), chance.randrange(20000), 1048576 - 99))
        octets = [chance.randrange(256)] * chance.randrange(100)
        write_file(nodes.store, inode, at=at, octets=octets)
        model.files[number].write(at, octets)
        nodes.put(number, inode)
        model.put(number, model.rows[number])

    def check(self, nodes, model):
        self.assertEqual(superblock_fields(nodes), model.superblock())
        self.assertEqual(nodes.numbers_in_use(), sorted(model.rows))
        for number in range(max(model.rows) + 3):
            self.assertEqual(fields(nodes.get(number)), model.rows.get(number), number)
        self.assertEqual(nodes.store.blocks, model.blocks())
        self.assertEqual(node_ids(nodes), model.ids())
        self.assertIsNone(files_fault(nodes.layout, nodes.store.blocks))

    def test_file_of_inodes_of_several_levels(self):
        nodes = new_nodes(LEAST)
        model = NodesModel(LEAST)
        for number in list(range(2, 9)) + [128, 129, 4095, 4096, 9000]:
            nodes.put(number, Inode(FILE, 3))
            model.put(number, (1, 3, 0, 0, 0, 0))
        self.assertEqual(nodes.superblock.height, 3)
        self.check(nodes, model)
        for number in (9000, 4095, 3, 4096, 128, 129):
            nodes.remove(number)
            model.remove(number)
            self.check(nodes, model)
        self.assertEqual(nodes.superblock.height, 1)

    def test_many_nodes(self):
        nodes = new_nodes(LEAST)
        for number in range(2, 301):
            self.assertEqual(nodes.new_number(), number)
            nodes.put(number, Inode(FILE))
        self.assertEqual(nodes.superblock.height, 2)
        self.assertIsNone(files_fault(LEAST, nodes.store.blocks))
        for number in range(300, 1, -1):
            nodes.remove(number)
        self.assertEqual(nodes.store.blocks, new_nodes(LEAST).store.blocks)

    def test_blocks_of_nodes_do_not_matter_to_inodes(self):
        nodes = new_nodes(LEAST)
        nodes.store.put(3, data(LEAST, 1))
        nodes.put(2, Inode(FILE, size=64, root=3))
        self.assertEqual(node_ids(nodes), [1, 2, 3])


if __name__ == "__main__":
    unittest.main()
