"""Points 93 to 96: paths that are followed through directories and symbolic links; also in plain trees."""

import random
import unittest

from helpers import LEAST, MIDDLE
from namesmodel import NamesModel, random_path, random_target
from segmentfs import errors
from segmentfs.names import changes
from segmentfs.names.paths import Path, read_path
from segmentfs.names.ways import Way, follow, new_name_at, node_at
from segmentfs.nodes.nodes import new_nodes
from segmentfs.plain.nodes import PlainNode, PlainTree, set_entry
from segmentfs.plain.ways import plain_follow, plain_new_name, plain_node_at

KINDS = {1: "file", 2: "directory", 3: "link"}


def end(way):
    return (way.directory, way.name, way.number)


def plain_tree_of(layout, model):
    """Return a plain tree with the nodes of a model whose numbers are 1, 2, and so on."""
    tree = PlainTree(layout)
    for number in sorted(model.nodes):
        if number > 1:
            tree.insert_node(PlainNode("file"))
    for number, node in model.nodes.items():
        plain = tree.changed(number)
        plain.kind, plain.parent, plain.text = KINDS[node.kind], node.parent, node.text
        for name, target in model.names(number).items():
            set_entry(plain, name, target)
    return tree


def outcome(call, *args):
    """Return what a call returns, or the class of its error."""
    try:
        return call(*args)
    except errors.SegmentError as error:
        return type(error)


class Tree:
    """The same tree three times: as nodes, as a plain tree, and as a model."""

    def __init__(self, *steps, layout=LEAST):
        self.nodes = new_nodes(layout)
        self.model = NamesModel()
        for name, *args in steps:
            getattr(changes, name)(self.nodes, *args)
            getattr(self.model, name)(*args)
        self.plain = plain_tree_of(layout, self.model)

    def read(self, text):
        return text if isinstance(text, Path) else read_path(text)

    def follow(self, test, text, last=False):
        path = self.read(text)
        found = outcome(lambda: end(follow(self.nodes, path, follow_last=last)))
        test.assertEqual(outcome(lambda: end(plain_follow(self.plain, path, follow_last=last))), found, text)
        test.assertEqual(outcome(self.model.follow, (path.parts, path.closed), last), found, text)
        return found

    def node_at(self, test, text, last=False):
        path = self.read(text)
        found = outcome(lambda: node_at(self.nodes, path, follow_last=last))
        test.assertEqual(outcome(lambda: plain_node_at(self.plain, path, follow_last=last)), found, text)
        test.assertEqual(outcome(self.model.node_at, (path.parts, path.closed), last), found, text)
        return found

    def new_name(self, test, text):
        path = self.read(text)
        found = outcome(lambda: end(new_name_at(self.nodes, path)))
        test.assertEqual(outcome(lambda: end(plain_new_name(self.plain, path))), found, text)
        model = outcome(self.model.new_name, (path.parts, path.closed))
        test.assertEqual(model if isinstance(model, type) else model + (0,), found, text)
        return found


class WayTest(unittest.TestCase):
    def test_properties(self):
        for row, flags in (((1, None, 1), (True, False, False)), ((7, None, 7), (True, False, False)),
                           ((3, "a", 0), (False, True, False)), ((3, "a", 5), (False, False, True))):
            way = Way(*row)
            self.assertEqual(end(way), row)
            self.assertEqual((way.at_directory, way.at_free, way.at_taken), flags)
            for flag in (way.at_directory, way.at_free, way.at_taken):
                self.assertIsInstance(flag, bool)


class FollowTest(unittest.TestCase):
    def tree(self):
        """Return a tree: /d is 2, /d/e is 3, /d/f is 4, /f is 5."""
        return Tree(("mkdir", "/d"), ("mkdir", "/d/e"), ("create", "/d/f"), ("create", "/f"))

    def check(self, tree, rows):
        for text, expected in rows:
            self.assertEqual(tree.follow(self, text), expected, text)

    def test_ends(self):
        self.check(self.tree(), (
            ("/", (1, None, 1)), ("/d", (1, "d", 2)), ("/d/", (1, "d", 2)), ("/d/e", (2, "e", 3)),
            ("/d/f", (2, "f", 4)), ("/f", (1, "f", 5)), ("/x", (1, "x", 0)), ("/d/x", (2, "x", 0)),
            ("/d/e/x/", (3, "x", 0)), ("/f/", (1, "f", 5)), ("/d/e/" + "y" * 28, (3, "y" * 28, 0))))

    def test_errors(self):
        self.check(self.tree(), (
            ("/x/y", errors.NotFound), ("/d/x/y", errors.NotFound), ("/x/..", errors.NotFound),
            ("/x/.", errors.NotFound), ("/f/x", errors.NotDirectory), ("/f/.", errors.NotDirectory),
            ("/f/..", errors.NotDirectory), ("/d/f/../f", errors.NotDirectory), ("/f/x/y", errors.NotDirectory),
            ("/d/f/.", errors.NotDirectory)))

    def test_dots_at_each_place(self):
        self.check(self.tree(), (
            ("/.", (1, None, 1)), ("/..", (1, None, 1)), ("/../..", (1, None, 1)), ("/d/.", (2, None, 2)),
            ("/d/..", (1, None, 1)), ("/d/e/..", (2, None, 2)), ("/d/e/../..", (1, None, 1)),
            ("/d/e/./../f", (2, "f", 4)), ("/../d/e", (2, "e", 3)), ("/./d/./e", (2, "e", 3)),
            ("/d/../d/../x", (1, "x", 0)), ("/d/e/../../..", (1, None, 1)), ("/d/e/./", (3, None, 3)),
            ("/d/e/../x", (2, "x", 0))))

    def test_names_that_no_path_can_have(self):
        self.assertEqual(self.tree().follow(self, Path(["d", "z" * 29], False)), (2, "z" * 29, 0))

    def test_path_is_not_changed(self):
        path = read_path("/d/e/x/")
        follow(self.tree().nodes, path, follow_last=True)
        self.assertEqual((path.parts, path.closed), (["d", "e", "x"], True))


class LinksTest(unittest.TestCase):
    def tree(self, *links):
        """Return a tree: /d is 2, /d/e is 3, /d/f is 4; then links from 5 on."""
        return Tree(("mkdir", "/d"), ("mkdir", "/d/e"), ("create", "/d/f"),
                    *[("symlink", target, text) for text, target in links])

    def check(self, tree, rows):
        """Check what a path leads to, without and with following a link at the end."""
        for text, without, with_last in rows:
            self.assertEqual(tree.follow(self, text), without, text)
            self.assertEqual(tree.follow(self, text, True), with_last, text)

    def test_link_to_a_directory(self):
        tree = self.tree(("/l", "d"), ("/d/m", "/d/e"))
        self.check(tree, (
            ("/l", (1, "l", 5), (1, "d", 2)), ("/l/", (1, "d", 2), (1, "d", 2)), ("/l/e", (2, "e", 3), (2, "e", 3)),
            ("/l/m", (2, "m", 6), (2, "e", 3)), ("/l/m/", (2, "e", 3), (2, "e", 3)),
            ("/l/.", (2, None, 2), (2, None, 2)), ("/l/m/..", (2, None, 2), (2, None, 2)),
            ("/l/..", (1, None, 1), (1, None, 1)), ("/l/m/x", (3, "x", 0), (3, "x", 0))))

    def test_link_to_a_file(self):
        tree = self.tree(("/l", "d/f"))
        self.check(tree, (
            ("/l", (1, "l", 5), (2, "f", 4)), ("/l/", (2, "f", 4), (2, "f", 4)),
            ("/l/x", errors.NotDirectory, errors.NotDirectory), ("/l/..", errors.NotDirectory, errors.NotDirectory)))

    def test_link_to_nothing(self):
        tree = self.tree(("/l", "d/x"), ("/m", "x/y"), ("/n", "/d/" + "z" * 40), ("/o", "d/f/x"))
        self.check(tree, (
            ("/l", (1, "l", 5), (2, "x", 0)), ("/l/", (2, "x", 0), (2, "x", 0)),
            ("/l/y", errors.NotFound, errors.NotFound), ("/m", (1, "m", 6), errors.NotFound),
            ("/m/", errors.NotFound, errors.NotFound), ("/n/", (2, "z" * 40, 0), (2, "z" * 40, 0)),
            ("/n/x", errors.NotFound, errors.NotFound), ("/o", (1, "o", 8), errors.NotDirectory)))

    def test_link_to_itself(self):
        tree = self.tree(("/l", "l"), ("/d/m", "/d/m/"), ("/d/n", "../d/o"), ("/d/o", "n"))
        self.check(tree, (
            ("/l", (1, "l", 5), errors.LinkLoop), ("/l/", errors.LinkLoop, errors.LinkLoop),
            ("/l/x", errors.LinkLoop, errors.LinkLoop), ("/d/m", (2, "m", 6), errors.LinkLoop),
            ("/d/n", (2, "n", 7), errors.LinkLoop), ("/d/o/..", errors.LinkLoop, errors.LinkLoop)))

    def test_links_without_names(self):
        tree = self.tree(("/d/r", "/"), ("/d/s", "."), ("/d/p", ".."), ("/d/t", "./."), ("/d/u", "///"))
        self.check(tree, (
            ("/d/r", (2, "r", 5), (1, None, 1)), ("/d/r/", (1, None, 1), (1, None, 1)),
            ("/d/r/d", (1, "d", 2), (1, "d", 2)), ("/d/s", (2, "s", 6), (2, None, 2)),
            ("/d/s/s/s/f", (2, "f", 4), (2, "f", 4)), ("/d/p", (2, "p", 7), (1, None, 1)),
            ("/d/p/x", (1, "x", 0), (1, "x", 0)), ("/d/t/", (2, None, 2), (2, None, 2)),
            ("/d/u/../d/u", (2, "u", 9), (1, None, 1))))

    def test_text_that_ends_with_a_slash_does_not_close_the_path(self):
        tree = self.tree(("/l", "d/f/"), ("/m", "n/"), ("/n", "d"))
        self.check(tree, (
            ("/l", (1, "l", 5), (2, "f", 4)), ("/m", (1, "m", 6), (1, "d", 2)), ("/m/", (1, "d", 2), (1, "d", 2))))
        self.assertEqual(tree.node_at(self, "/l", True), 4)
        self.assertEqual(tree.node_at(self, "/l/", True), errors.NotDirectory)

    def test_links_from_their_own_directory_and_from_the_root(self):
        tree = self.tree(("/d/e/l", "../f"), ("/d/e/m", "/d/f"), ("/d/e/n", "f"), ("/d/e/o", "../../d/e/l"))
        self.check(tree, (
            ("/d/e/l", (3, "l", 5), (2, "f", 4)), ("/d/e/m", (3, "m", 6), (2, "f", 4)),
            ("/d/e/n", (3, "n", 7), (3, "f", 0)), ("/d/e/o", (3, "o", 8), (2, "f", 4))))

    def test_link_in_the_middle_whose_text_ends_at_a_link(self):
        # "The last name" is the last one of those that are left at that moment.
        tree = self.tree(("/l", "m"), ("/m", "d"), ("/n", "l"))
        self.check(tree, (
            ("/l/e", (2, "e", 3), (2, "e", 3)), ("/n", (1, "n", 7), (1, "d", 2)), ("/n/", (1, "d", 2), (1, "d", 2))))

    def chain(self, count):
        """Return a tree with links l1 to l`count`, of which each one leads to the next one, the last one to /d."""
        links = [(f"/l{place}", f"l{place + 1}") for place in range(1, count)]
        return self.tree(*links, (f"/l{count}", "d"))

    def test_eight_links_and_nine(self):
        tree = self.chain(8)
        self.assertEqual(tree.follow(self, "/l1", True), (1, "d", 2))
        self.assertEqual(tree.follow(self, "/l1/"), (1, "d", 2))
        self.assertEqual(tree.follow(self, "/l1/e"), (2, "e", 3))
        self.assertEqual(tree.follow(self, "/l1/../l8"), (1, "l8", 12))
        self.assertEqual(tree.follow(self, "/l1/../l8", True), errors.LinkLoop)
        tree = self.chain(9)
        self.assertEqual(tree.follow(self, "/l1", True), errors.LinkLoop)
        self.assertEqual(tree.follow(self, "/l1/"), errors.LinkLoop)
        self.assertEqual(tree.follow(self, "/l1"), (1, "l1", 5))
        self.assertEqual(tree.follow(self, "/l2", True), (1, "d", 2))

    def test_links_count_along_the_whole_path(self):
        tree = self.tree(("/s", "."))
        self.assertEqual(tree.follow(self, "/s" * 8), (1, "s", 5))
        self.assertEqual(tree.follow(self, "/s" * 8, True), (1, None, 1))
        self.assertEqual(tree.follow(self, "/s" * 9), (1, "s", 5))
        self.assertEqual(tree.follow(self, "/s" * 9, True), errors.LinkLoop)
        self.assertEqual(tree.follow(self, "/s" * 9 + "/"), errors.LinkLoop)
        self.assertEqual(tree.follow(self, "/s" * 10), errors.LinkLoop)

    def test_long_way(self):
        # Sixteen names, and eight links of a hundred names each.
        tree = self.tree(("/s", "./" * 99 + "d"), ("/d/s", "./" * 99 + "."))
        self.assertEqual(tree.follow(self, "/s" * 8 + "/." * 7 + "/e"), (2, "e", 3))

    def test_free_name_behind_a_link(self):
        tree = self.tree(("/l", "x"), ("/x", "d/y"))
        self.check(tree, (("/l", (1, "l", 5), (2, "y", 0)), ("/l/", (2, "y", 0), (2, "y", 0))))
        self.assertEqual(tree.new_name(self, "/l/"), (2, "y", 0))
        self.assertEqual(tree.new_name(self, "/l"), errors.AlreadyExists)


class NodeAtTest(unittest.TestCase):
    def test_nodes(self):
        tree = Tree(("mkdir", "/d"), ("create", "/d/f"), ("symlink", "d/f", "/l"), ("symlink", "d", "/m"),
                    ("symlink", "none", "/n"))
        rows = (
            ("/", 1, 1), ("/d", 2, 2), ("/d/", 2, 2), ("/d/f", 3, 3), ("/d/..", 1, 1), ("/d/.", 2, 2),
            ("/l", 4, 3), ("/m", 5, 2), ("/m/", 2, 2), ("/n", 6, errors.NotFound), ("/n/", errors.NotFound,
                                                                                    errors.NotFound),
            ("/d/f/", errors.NotDirectory, errors.NotDirectory), ("/l/", errors.NotDirectory, errors.NotDirectory),
            ("/x", errors.NotFound, errors.NotFound), ("/x/", errors.NotFound, errors.NotFound),
            ("/d/f/x", errors.NotDirectory, errors.NotDirectory))
        for text, without, with_last in rows:
            self.assertEqual(tree.node_at(self, text), without, text)
            self.assertEqual(tree.node_at(self, text, True), with_last, text)


class NewNameTest(unittest.TestCase):
    def test_new_names(self):
        tree = Tree(("mkdir", "/d"), ("create", "/f"), ("symlink", "none", "/l"), ("symlink", "d/" + "y" * 29, "/m"),
                    ("symlink", "z" * 28, "/n"), ("symlink", "d/", "/o"))
        for text, expected in (
                ("/x", (1, "x", 0)), ("/x/", (1, "x", 0)), ("/d/x", (2, "x", 0)), ("/o/x", (2, "x", 0)),
                ("/l/", (1, "none", 0)), ("/n/", (1, "z" * 28, 0)), ("/d/" + "q" * 28, (2, "q" * 28, 0)),
                ("/", errors.AlreadyExists), ("/.", errors.AlreadyExists), ("/d", errors.AlreadyExists),
                ("/d/..", errors.AlreadyExists), ("/f", errors.AlreadyExists), ("/f/", errors.AlreadyExists),
                ("/l", errors.AlreadyExists), ("/m", errors.AlreadyExists), ("/m/", errors.NameTooLong),
                ("/o", errors.AlreadyExists), ("/o/", errors.AlreadyExists), ("/f/x", errors.NotDirectory),
                ("/x/y", errors.NotFound)):
            self.assertEqual(tree.new_name(self, text), expected, text)

    def test_long_name(self):
        tree = Tree()
        self.assertEqual(tree.new_name(self, Path(["q" * 28], False)), (1, "q" * 28, 0))
        self.assertEqual(tree.new_name(self, Path(["q" * 29], False)), errors.NameTooLong)
        self.assertEqual(tree.new_name(self, Path(["x", "q" * 29], False)), errors.NotFound)


class RandomTest(unittest.TestCase):
    def test_random_trees(self):
        for seed in range(40):
            chance = random.Random(seed)
            tree = Tree(layout=(LEAST, MIDDLE)[seed % 2])
            for _ in range(25):
                self.grow(chance, tree)
            tree.plain = plain_tree_of(tree.nodes.layout, tree.model)
            for _ in range(80):
                text = random_path(chance, tree.model)
                if len(text) <= 200 and len(text.split("/")) <= 16:
                    last = chance.random() < 0.5
                    tree.follow(self, text, last)
                    tree.node_at(self, text, last)
                    tree.new_name(self, text)

    def grow(self, chance, tree):
        name, args = chance.choice((
            ("mkdir", (random_path(chance, tree.model),)), ("create", (random_path(chance, tree.model),)),
            ("symlink", (random_target(chance, tree.model), random_path(chance, tree.model)))))
        model = outcome(getattr(tree.model, name), *args)
        fork = tree.nodes.fork()
        self.assertEqual(outcome(getattr(changes, name), fork, *args), model, args)
        if not isinstance(model, type):
            tree.nodes = fork


if __name__ == "__main__":
    unittest.main()
