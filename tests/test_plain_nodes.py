"""What plain volumes need of nodes and ways (points 79, 89, 93 to 96, 136, 141 and 142)."""

import random
import unittest

from changepair import Pair, random_step
from helpers import GREATEST, LAYOUTS, LEAST, MIDDLE
from namesmodel import random_path
from segmentfs.errors import SegmentError
from segmentfs.nodes.directories import places
from segmentfs.plain.nodes import PlainNode, PlainTree, clear_entry, entries_of, find_in, set_entry
from segmentfs.plain.ways import plain_follow, plain_ways
from segmentfs.names.paths import read_path
from segmentfs.names.ways import follow
from test_ways import plain_tree_of


class PlainTreeTest(unittest.TestCase):
    def test_new_tree(self):
        for layout in LAYOUTS:
            tree = PlainTree(layout)
            root = tree.node(1)
            self.assertIs(tree.layout, layout)
            self.assertEqual(tree.numbers(), [1])
            self.assertEqual((root.kind, root.links, root.parent, root.size, root.places), ("directory", 1, 1, 0, []))
            self.assertEqual((tree.block_total(1), tree.used()), (0, 2))

    def test_least_number(self):
        tree = PlainTree(LEAST)
        self.assertEqual([tree.insert_node(PlainNode("file")) for _ in range(4)], [2, 3, 4, 5])
        for number in (4, 2):
            tree.drop(number)
        self.assertEqual(tree.numbers(), [1, 3, 5])
        self.assertEqual([tree.insert_node(PlainNode("link")) for _ in range(3)], [2, 4, 6])

    def test_changes_of_a_fork(self):
        tree = PlainTree(LEAST)
        number = tree.insert_node(PlainNode("file"))
        tree.changed(number).blocks[0] = (1,) * 64
        set_entry(tree.changed(1), "a", number)
        twin = tree.fork()
        node = twin.changed(number)
        node.blocks[1] = (2,) * 64
        node.links, node.size, node.text, node.parent = 3, 100, "x", 9
        set_entry(twin.changed(1), "b", 7)
        twin.insert_node(PlainNode("directory", 1))
        self.assertEqual((tree.node(number).blocks, tree.node(number).links), ({0: (1,) * 64}, 1))
        self.assertEqual(tree.node(1).places, [("a", 2)])
        self.assertEqual((tree.numbers(), twin.numbers()), ([1, 2], [1, 2, 3]))
        tree.drop(number)
        clear_entry(tree.changed(1), "a")
        self.assertEqual(entries_of(twin.node(1)), [("a", 2), ("b", 7)])
        self.assertEqual(twin.node(number).size, 100)

    def test_entries(self):
        node = PlainNode("directory")
        for number, name in enumerate(("b", "a", "c"), start=2):
            set_entry(node, name, number)
        self.assertEqual(node.size, 96)
        clear_entry(node, "a")
        self.assertEqual((node.places, node.size), ([("b", 2), None, ("c", 4)], 96))
        self.assertEqual(entries_of(node), [("b", 2), ("c", 4)])
        self.assertEqual([find_in(node, name) for name in ("a", "b", "c", "")], [0, 2, 4, 0])
        set_entry(node, "c", 9)
        set_entry(node, "z", 5)
        set_entry(node, "y", 6)
        self.assertEqual(node.places, [("b", 2), ("z", 5), ("c", 9), ("y", 6)])
        self.assertEqual(node.size, 128)

    def test_block_totals(self):
        tree = PlainTree(LEAST)
        number = tree.insert_node(PlainNode("file"))
        for numbers, total in (((), 0), ((0,), 1), ((0, 1), 3), ((31,), 2), ((32,), 3), ((0, 32), 5), ((1, 40), 5)):
            node = tree.changed(number)
            node.blocks = {each: (0,) * 64 for each in numbers}
            node.size = 10 ** 5
            self.assertEqual(tree.block_total(number), total)
            self.assertEqual(tree.used(), 2 + total)
        for kind in ("directory", "link"):
            node = tree.changed(number)
            node.kind = kind
            for size, total in ((0, 0), (1, 1), (64, 1), (65, 3), (2048, 33), (2049, 36)):
                node.size = size
                self.assertEqual(tree.block_total(number), total, size)

    def test_blocks_of_the_inodes(self):
        # Four inodes lie in a block of 64 octets; the number 0 has none.
        tree = PlainTree(LEAST)
        for count, total in ((3, 2), (4, 4), (7, 4), (8, 5)):
            while len(tree.numbers()) < count:
                tree.insert_node(PlainNode("file"))
            self.assertEqual(tree.used(), total, count)
        for number in (4, 5, 6, 7):
            tree.drop(number)
        self.assertEqual(tree.numbers(), [1, 2, 3, 8])
        self.assertEqual(tree.used(), 4)

    def test_ways(self):
        tree = PlainTree(LEAST)
        for number, (directory, name, kind) in enumerate((
                (1, "b", "directory"), (1, "a-", "file"), (2, "x", "link"), (1, "a", "directory"), (5, "z", "file"),
                (2, "x-", "file")), start=2):
            self.assertEqual(tree.insert_node(PlainNode(kind, directory)), number)
            set_entry(tree.changed(directory), name, number)
        self.assertEqual(plain_ways(tree, 1), [
            ((), 1), (("a",), 5), (("a", "z"), 6), (("a-",), 3), (("b",), 2), (("b", "x"), 4), (("b", "x-"), 7)])
        self.assertEqual(plain_ways(tree, 2), [((), 2), (("x",), 4), (("x-",), 7)])
        self.assertEqual(plain_ways(tree, 6), [((), 6)])

    def test_random_trees(self):
        for seed in range(15):
            chance = random.Random(1000 + seed)
            layout = (LEAST, MIDDLE, GREATEST)[seed % 3]
            pair = Pair(self, layout)
            for _ in range(50):
                random_step(chance, pair)
            tree = plain_tree_of(layout, self.with_all_numbers(pair))
            self.assertEqual(plain_ways(tree, 1), pair.model.ways(1))
            for number in pair.nodes.numbers_in_use():
                if tree.node(number).kind == "directory":
                    self.assertEqual(entries_of(tree.node(number)), sorted(
                        entry for entry in places(pair.nodes, number) if entry))
            for _ in range(40):
                self.check_path(tree, pair.nodes, random_path(chance, pair.model))

    def with_all_numbers(self, pair):
        """Take files without names out, and fill numbers that are not in use."""
        for number in list(pair.opened):
            pair.close(number)
        while sorted(pair.model.nodes) != list(range(1, len(pair.model.nodes) + 1)):
            pair.run("create", f"/fill{len(pair.model.nodes)}")
        return pair.model

    def check_path(self, tree, nodes, text):
        try:
            path = read_path(text)
        except SegmentError:
            return
        found = []
        for call, object_ in ((follow, nodes), (plain_follow, tree)):
            try:
                way = call(object_, path, follow_last=False)
                found.append((way.directory, way.name, way.number))
            except SegmentError as error:
                found.append(type(error))
        self.assertEqual(found[0], found[1], text)


if __name__ == "__main__":
    unittest.main()
