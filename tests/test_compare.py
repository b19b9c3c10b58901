"""Points 136 to 139: comparing trees."""

import random
import unittest

from changepair import Pair, random_step
from helpers import GREATEST, LAYOUTS, LEAST, MIDDLE, run_example
from segmentfs.differences.compare import alike, differences, walk_list
from segmentfs.names.changes import create, link, mkdir, rmdir, symlink, unlink
from segmentfs.names.questions import Info
from segmentfs.names.renaming import rename
from segmentfs.nodes.nodes import new_nodes, write_node
from segmentfs.volume.files import punch_node, truncate_node


def small_nodes(layout=LEAST):
    """Return nodes: /d is 2, /d/f is 3, /l (to d/f) is 4, /g is 5."""
    nodes = new_nodes(layout)
    mkdir(nodes, "/d")
    create(nodes, "/d/f")
    symlink(nodes, "d/f", "/l")
    create(nodes, "/g")
    return nodes


class WalkListTest(unittest.TestCase):
    def test_rows(self):
        nodes = small_nodes()
        write_node(nodes, 3, 100, [1])
        link(nodes, "/d/f", "/d/e")
        found = walk_list(nodes, 1)
        for _, info in found:
            self.assertIsInstance(info, Info)
        self.assertEqual([(text, info.number, info.kind, info.links, info.size, info.block_total)
                          for text, info in found], [
            ("", 1, "directory", 1, 96, 3), ("/d", 2, "directory", 1, 64, 1), ("/d/e", 3, "file", 2, 101, 2),
            ("/d/f", 3, "file", 2, 101, 2), ("/g", 5, "file", 1, 0, 0), ("/l", 4, "link", 1, 3, 1)])
        self.assertEqual([text for text, _ in walk_list(nodes, 2)], ["", "/e", "/f"])
        self.assertEqual([text for text, _ in walk_list(nodes, 4)], [""])
        self.assertIsInstance(found[0], tuple)


class AlikeTest(unittest.TestCase):
    def check(self, expected, change, layout=LEAST):
        """Compare a file of 3 blocks of which the second one is missing with what a change makes of it."""
        first = small_nodes(layout)
        size = layout.block_size
        write_node(first, 3, 0, [7] * size)
        write_node(first, 3, 2 * size, [8] * 10)
        second = first.fork()
        change(second, size)
        self.assertIs(alike(first, 3, second, 3), expected)
        self.assertIs(alike(second, 3, first, 3), expected)

    def test_files(self):
        for layout in LAYOUTS:
            self.check(True, lambda nodes, size: None, layout)
            self.check(True, lambda nodes, size: write_node(nodes, 3, 5, [7]), layout)
            self.check(False, lambda nodes, size: write_node(nodes, 3, 0, [6]), layout)
            self.check(False, lambda nodes, size: write_node(nodes, 3, size - 1, [6]), layout)
            self.check(False, lambda nodes, size: write_node(nodes, 3, 2 * size + 9, [7]), layout)
            self.check(False, lambda nodes, size: write_node(nodes, 3, 2 * size + 10, [0]), layout)
            self.check(False, lambda nodes, size: truncate_node(nodes, 3, 2 * size + 11), layout)
            self.check(False, lambda nodes, size: truncate_node(nodes, 3, 2 * size + 9), layout)

    def test_holes_are_not_alike_to_zeros(self):
        self.check(False, lambda nodes, size: write_node(nodes, 3, size, [0]))
        self.check(False, lambda nodes, size: punch_node(nodes, 3, 0, size))
        self.check(False, lambda nodes, size: (punch_node(nodes, 3, 0, size), write_node(nodes, 3, 0, [0] * size)))
        first, second = small_nodes(), small_nodes()
        write_node(first, 3, 0, [0] * 64)
        truncate_node(second, 3, 64)
        self.assertIs(alike(first, 3, second, 3), False)
        punch_node(first, 3, 0, 64)
        self.assertIs(alike(first, 3, second, 3), True)

    def test_same_blocks_at_other_numbers(self):
        first, second = small_nodes(), small_nodes()
        for nodes, number in ((first, 0), (second, 1)):
            truncate_node(nodes, 3, 200)
            write_node(nodes, 3, 64 * number, [9] * 64)
        self.assertIs(alike(first, 3, second, 3), False)

    def test_numbers_ids_and_names_do_not_count(self):
        first, second = small_nodes(), small_nodes()
        write_node(first, 3, 0, [1] * 300)
        create(second, "/x")
        write_node(second, 6, 256, [1] * 44)
        write_node(second, 6, 0, [1] * 256)
        link(second, "/x", "/y")
        self.assertIs(alike(first, 3, second, 6), True)

    def test_kinds(self):
        nodes = small_nodes()
        for number in (1, 2, 3, 4):
            for other in (1, 2, 3, 4):
                self.assertIs(alike(nodes, number, nodes, other), number == other or number + other == 3)

    def test_links(self):
        first, second = small_nodes(), small_nodes()
        self.assertIs(alike(first, 4, second, 4), True)
        unlink(second, "/l", [])
        symlink(second, "d/g", "/l")
        self.assertIs(alike(first, 4, second, 4), False)
        symlink(second, "d/f", "/m")
        self.assertIs(alike(first, 4, second, 6), True)
        for text in ("d/f/", "d//f", "d/fx"):
            symlink(second, text, "/t")
            self.assertIs(alike(first, 4, second, 7), False)
            unlink(second, "/t", [])

    def test_directories_are_always_alike(self):
        first, second = small_nodes(), small_nodes()
        unlink(second, "/d/f", [])
        self.assertIs(alike(first, 2, second, 2), True)
        self.assertIs(alike(first, 1, second, 2), True)


class DifferencesTest(unittest.TestCase):
    def check(self, expected, *changes):
        first = small_nodes()
        second = first.fork()
        for change in changes:
            change(second)
        self.assertEqual(differences(first, second), expected)
        words = {"removed": "added", "added": "removed", "changed": "changed"}
        self.assertEqual(differences(second, first), [(text, words[word]) for text, word in expected])
        self.assertEqual((differences(first, first), differences(second, second)), ([], []))

    def test_example(self):
        run_example(self, """
>>> from segmentfs.geometry.layout import Layout
>>> from segmentfs.nodes.nodes import new_nodes
>>> from segmentfs.names.changes import mkdir, symlink, unlink
>>> from segmentfs.differences.compare import differences
>>> first = new_nodes(Layout(4, 16, 64))
>>> mkdir(first, "/a")
2
>>> symlink(first, "x", "/a/b")
3
>>> second = first.fork()
>>> unlink(second, "/a/b", [])
>>> mkdir(second, "/a/c")
3
>>> differences(first, second)
[('/a/b', 'removed'), ('/a/c', 'added')]
""")

    def test_single_differences(self):
        self.check([])
        self.check([("/d/x", "added")], lambda nodes: create(nodes, "/d/x"))
        self.check([("/g", "removed")], lambda nodes: unlink(nodes, "/g", []))
        self.check([("/d/f", "changed")], lambda nodes: write_node(nodes, 3, 0, [0]))
        self.check([("/g", "removed"), ("/h", "added")], lambda nodes: rename(nodes, "/g", "/h", []))
        self.check([("/g", "changed")], lambda nodes: unlink(nodes, "/g", []), lambda nodes: mkdir(nodes, "/g"))
        self.check([], lambda nodes: unlink(nodes, "/g", []), lambda nodes: create(nodes, "/g"))
        self.check([("/x", "added")], lambda nodes: link(nodes, "/g", "/x"))

    def test_whole_directories(self):
        self.check([("/d", "removed"), ("/d/f", "removed"), ("/e", "added"), ("/e/f", "added")],
                   lambda nodes: rename(nodes, "/d", "/e", []))
        self.check([("/d", "changed"), ("/d/f", "removed")], lambda nodes: unlink(nodes, "/d/f", []),
                   lambda nodes: rmdir(nodes, "/d"), lambda nodes: create(nodes, "/d"))

    def test_names_of_one_file(self):
        first = small_nodes()
        link(first, "/g", "/a")
        second = first.fork()
        write_node(second, 5, 0, [1])
        self.assertEqual(differences(first, second), [("/a", "changed"), ("/g", "changed")])

    def test_order_of_ways(self):
        texts = ("/a", "/a-", "/a ", "/a/x", "/ab", "/a!", "/a/x-")
        self.check([("/a", "added"), ("/a/x", "added"), ("/a/x-", "added"), ("/a ", "added"), ("/a!", "added"),
                    ("/a-", "added"), ("/ab", "added")], *[lambda nodes, text=text: mkdir(nodes, text)
                                                          for text in texts])

    def test_exchanged_trees(self):
        self.check([("/d/f", "changed"), ("/g", "removed"), ("/h", "added")],
                   lambda nodes: write_node(nodes, 3, 9, [4]), lambda nodes: unlink(nodes, "/g", []),
                   lambda nodes: mkdir(nodes, "/h"))

    def test_random_trees(self):
        for seed in range(20):
            chance = random.Random(seed)
            pair = Pair(self, (LEAST, MIDDLE, GREATEST)[seed % 3])
            pair.calls["rename"] = rename
            for _ in range(20):
                random_step(chance, pair)
            former, rows = pair.nodes.fork(), self.tree(pair)
            for _ in range(chance.randrange(25)):
                random_step(chance, pair)
            self.assertEqual(differences(former, pair.nodes), self.expected(rows, self.tree(pair)))
            self.assertEqual(differences(pair.nodes, former), self.expected(self.tree(pair), rows))

    def tree(self, pair):
        """Return what the model has at each way, without numbers."""
        tree = {}
        for way, number in pair.model.ways(1):
            node = pair.model.nodes[number]
            tree[way] = (node.kind, node.text, list(node.octets))
        return tree

    def expected(self, first, second):
        found = []
        for way in sorted(set(first) | set(second)):
            if first.get(way) != second.get(way):
                word = "changed" if way in first and way in second else "removed" if way in first else "added"
                found.append(("".join("/" + name for name in way), word))
        return found


if __name__ == "__main__":
    unittest.main()
