"""Changes of a plain tree (points 97 to 105 and 140), against the same plain model as those of nodes."""

import random
import unittest

from changepair import outcome, random_step
from helpers import GREATEST, LEAST, MIDDLE
from namesmodel import NamesModel
from segmentfs import errors
from segmentfs.plain import changes
from segmentfs.plain.nodes import PlainTree
from test_changes import UNREADABLE

KINDS = {"file": 1, "directory": 2, "link": 3}
WITH_OPENED = ("unlink", "rename")
NAMES = ("mkdir", "create", "symlink", "link", "unlink", "rmdir", "rename")


class PlainPair:
    """A plain tree and its model."""

    def __init__(self, test, layout=LEAST):
        self.test = test
        self.tree = PlainTree(layout)
        self.model = NamesModel()
        self.opened = []
        self.calls = {name: getattr(changes, "plain_" + name) for name in NAMES}

    def run(self, name, *args):
        if name in WITH_OPENED:
            args += (list(self.opened),)
        before = self.rows()
        fork = self.tree.fork()
        found = outcome(self.calls[name], fork, *args)
        expected = outcome(getattr(self.model, name), *args)
        if isinstance(expected, int) and name != "create":
            expected = None
        self.test.assertEqual(found, expected, (name, args))
        self.test.assertEqual(self.rows(), before)
        if not isinstance(found, type):
            self.tree = fork
        self.test.assertEqual(self.rows(), self.model.rows())
        return found

    def rows(self):
        rows = {}
        for number in self.tree.numbers():
            node = self.tree.node(number)
            self.test.assertEqual(node.size, {"link": len(node.text), "directory": 32 * len(node.places)}.get(
                node.kind, node.size))
            octets = [octet for block in sorted(node.blocks) for octet in node.blocks[block]]
            rows[number] = (KINDS[node.kind], node.links, node.parent, list(node.places), node.text, octets[:node.size])
        return rows

    def write(self, number, octets):
        node = self.tree.changed(number)
        node.blocks = {0: tuple(octets)} if octets else {}
        node.size = len(octets)
        self.model.nodes[number].octets = list(octets)

    def close(self, number):
        self.opened.remove(number)
        if self.model.nodes[number].links == 0 and number not in self.opened:
            del self.model.nodes[number]
            self.tree.drop(number)


class PlainChangesTest(unittest.TestCase):
    def test_random_changes(self):
        for seed in range(60):
            chance = random.Random(seed)
            pair = PlainPair(self, (LEAST, MIDDLE, GREATEST)[seed % 3])
            for _ in range(90):
                random_step(chance, pair)

    def test_unreadable_paths(self):
        pair = PlainPair(self)
        pair.run("create", "/f")
        for text, error in UNREADABLE:
            for call in (("mkdir", text), ("create", text), ("symlink", "a", text), ("link", text, "/x"),
                         ("link", "/f", text), ("unlink", text), ("rmdir", text), ("rename", text, "/x"),
                         ("rename", "/f", text)):
                self.assertEqual(pair.run(*call), error, call)
        for target, error in (("", errors.InvalidPath), ("x" * 201, errors.NameTooLong), ("%", errors.InvalidPath)):
            self.assertEqual(pair.run("symlink", target, "/x"), error)

    def test_names_of_one_node_and_parents(self):
        pair = PlainPair(self)
        for call in (("mkdir", "/d"), ("mkdir", "/e"), ("create", "/f"), ("link", "/f", "/d/g"),
                     ("rename", "/f", "/d/g"), ("rename", "/d", "/e/d"), ("rename", "/e/d", "/e/d"),
                     ("rename", "/e/d", "/e/c"), ("unlink", "/f"), ("mkdir", "/h"), ("rename", "/e/c", "/h"),
                     ("rename", "/h/g", "/k")):
            self.assertIn(pair.run(*call), (None, 4))
        for text in ("/h/x", "/h"):
            pair.run("mkdir", text)
            self.assertEqual(pair.run("rename", "/h", text + "/y"), errors.InvalidMove)

    def test_40_names(self):
        pair = PlainPair(self)
        pair.run("create", "/f")
        for number in range(39):
            self.assertIsNone(pair.run("link", "/f", f"/{number}"))
        self.assertEqual(pair.run("link", "/f", "/more"), errors.TooManyNames)

    def test_free_names_that_are_too_long(self):
        pair = PlainPair(self)
        for call in (("mkdir", "/d"), ("symlink", "x" * 29, "/l"), ("symlink", "x" * 28, "/m")):
            pair.run(*call)
        for call in (("mkdir", "/l/"), ("create", "/l/"), ("rename", "/d", "/l/")):
            self.assertEqual(pair.run(*call), errors.NameTooLong)
        self.assertIsNone(pair.run("rename", "/d", "/m/"))

    def test_open_files(self):
        pair = PlainPair(self)
        for name in "abc":
            pair.run("create", "/" + name)
        pair.opened = [2, 3]
        for call in (("unlink", "/a"), ("rename", "/c", "/b")):
            self.assertIsNone(pair.run(*call))
        self.assertEqual([pair.tree.node(number).links for number in (2, 3, 4)], [0, 0, 1])


if __name__ == "__main__":
    unittest.main()
