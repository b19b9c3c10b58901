"""Point 136: ways from a node to the nodes below it."""

import random
import unittest

from changepair import Pair, random_step
from helpers import LAYOUTS, LEAST
from segmentfs.differences.ways import path_of, ways_below
from segmentfs.names.changes import create, link, mkdir, rmdir, symlink, unlink
from segmentfs.nodes.directories import add_entry
from segmentfs.nodes.inodes import DIRECTORY, Inode
from segmentfs.nodes.nodes import new_nodes


class PathOfTest(unittest.TestCase):
    def test_texts(self):
        for way, text in (((), ""), (("a",), "/a"), (("a", "b c"), "/a/b c"), (("...", "x" * 28), "/.../" + "x" * 28)):
            self.assertEqual(path_of(way), text)
        self.assertEqual(path_of(("ab",) * 300), "/ab" * 300)


class WaysTest(unittest.TestCase):
    def ways(self, nodes, number=1):
        return list(ways_below(nodes, number))

    def test_root_directory_alone(self):
        self.assertEqual(self.ways(new_nodes(LEAST)), [((), 1)])

    def test_names_that_begin_with_others_and_signs_ahead_of_the_slash(self):
        nodes = new_nodes(LEAST)
        for text in ("/a", "/a-b", "/a b", "/ab", "/A"):
            mkdir(nodes, text)
        for text in ("/a/z", "/a-b/y", "/ab/x", "/a b/w", "/a!", "/aa", "/-", "/a/z.", "/a/Z"):
            create(nodes, text)
        self.assertEqual([path_of(way) for way, _ in self.ways(nodes)], [
            "", "/-", "/A", "/a", "/a/Z", "/a/z", "/a/z.", "/a b", "/a b/w", "/a!", "/a-b", "/a-b/y", "/aa", "/ab",
            "/ab/x"])
        self.assertEqual([way for way, _ in self.ways(nodes)], sorted(way for way, _ in self.ways(nodes)))

    def test_from_other_nodes(self):
        nodes = new_nodes(LEAST)
        mkdir(nodes, "/d")
        mkdir(nodes, "/d/e")
        create(nodes, "/d/e/f")
        symlink(nodes, "/d", "/d/l")
        link(nodes, "/d/e/f", "/d/g")
        self.assertEqual(self.ways(nodes, 2), [
            ((), 2), (("e",), 3), (("e", "f"), 4), (("g",), 4), (("l",), 5)])
        self.assertEqual(self.ways(nodes, 3), [((), 3), (("f",), 4)])
        self.assertEqual(self.ways(nodes, 4), [((), 4)])
        self.assertEqual(self.ways(nodes, 5), [((), 5)])

    def test_empty_directory_and_free_places(self):
        nodes = new_nodes(LEAST)
        mkdir(nodes, "/d")
        create(nodes, "/d/a")
        create(nodes, "/d/b")
        unlink(nodes, "/d/a", [])
        self.assertEqual(self.ways(nodes), [((), 1), (("d",), 2), (("d", "b"), 4)])
        unlink(nodes, "/d/b", [])
        self.assertEqual(self.ways(nodes, 2), [((), 2)])
        rmdir(nodes, "/d")
        self.assertEqual(self.ways(nodes), [((), 1)])

    def test_deep_tree(self):
        nodes = new_nodes(LEAST)
        for number in range(2, 402):
            nodes.put(number, Inode(DIRECTORY, parent=number - 1))
            add_entry(nodes, number - 1, "n", number)
        self.assertEqual(self.ways(nodes), [(("n",) * depth, depth + 1) for depth in range(401)])

    def test_random_trees(self):
        for seed in range(15):
            chance = random.Random(seed)
            pair = Pair(self, LAYOUTS[seed % 3])
            for _ in range(40):
                random_step(chance, pair)
            for number, node in pair.model.nodes.items():
                ways = self.ways(pair.nodes, number)
                self.assertEqual(ways, pair.model.ways(number) if node.kind == 2 else [((), number)])
                self.assertEqual(ways, sorted(ways))


if __name__ == "__main__":
    unittest.main()
