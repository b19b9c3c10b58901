"""Point 106: questions about nodes."""

import unittest

from helpers import LAYOUTS, LEAST, run_example
from segmentfs import errors
from segmentfs.names.changes import create, link, mkdir, symlink, unlink
from segmentfs.names.questions import Info, file_at, readdir, readlink, stat, stat_of
from segmentfs.nodes.nodes import new_nodes, write_node
from test_changes import UNREADABLE


def fields(info):
    return (info.number, info.kind, info.links, info.size, info.block_total)


class QuestionsTest(unittest.TestCase):
    def nodes(self, layout=LEAST):
        """Return nodes: /d is 2, /d/f is 3, the links /l (to d/f) 4, /m (to d) 5, /n (to none) 6, /s (to itself) 7."""
        nodes = new_nodes(layout)
        mkdir(nodes, "/d")
        create(nodes, "/d/f")
        for target, text in (("d/f", "/l"), ("d", "/m"), ("none", "/n"), ("s", "/s")):
            symlink(nodes, target, text)
        return nodes

    def refused(self, error, call, *args, **keywords):
        with self.assertRaises(errors.SegmentError, msg=args) as caught:
            call(*args, **keywords)
        self.assertIs(type(caught.exception), error, args)

    def test_example_of_the_handles(self):
        run_example(self, """
>>> from segmentfs.geometry.layout import Layout
>>> from segmentfs.nodes.nodes import new_nodes
>>> from segmentfs.names.changes import mkdir, symlink, create
>>> from segmentfs.names.questions import readdir
>>> nodes = new_nodes(Layout(4, 16, 64))
>>> mkdir(nodes, "/a")
2
>>> symlink(nodes, "../a", "/a/up")
3
>>> create(nodes, "/a/up/x")
4
>>> readdir(nodes, "/a")
[('up', 3), ('x', 4)]
""")

    def test_info(self):
        self.assertEqual(fields(Info(1, "file", 2, 3, 4)), (1, "file", 2, 3, 4))
        self.assertEqual(fields(Info(block_total=9, size=8, links=7, kind="link", number=6)), (6, "link", 7, 8, 9))

    def test_stat_of(self):
        for layout in LAYOUTS:
            nodes = self.nodes(layout)
            size = layout.block_size
            self.assertEqual(fields(stat_of(nodes, 3)), (3, "file", 1, 0, 0))
            write_node(nodes, 3, 0, [1] * size)
            self.assertEqual(fields(stat_of(nodes, 3)), (3, "file", 1, size, 1))
            write_node(nodes, 3, 3 * size, [1])
            link(nodes, "/d/f", "/g")
            self.assertEqual(fields(stat_of(nodes, 3)), (3, "file", 2, 3 * size + 1, 3))
            self.assertEqual(fields(stat_of(nodes, 2)), (2, "directory", 1, 32, 1))
            self.assertEqual(fields(stat_of(nodes, 4)), (4, "link", 1, 3, 1))

    def test_file_without_names(self):
        nodes = self.nodes()
        unlink(nodes, "/d/f", [3])
        self.assertEqual(fields(stat_of(nodes, 3)), (3, "file", 0, 0, 0))

    def test_stat(self):
        nodes = self.nodes()
        for text, followed, itself in (("/", 1, 1), ("/d", 2, 2), ("/d/", 2, 2), ("/l", 3, 4), ("/m", 2, 5),
                                       ("/m/", 2, 2), ("/m/f", 3, 3), ("/d/..", 1, 1)):
            self.assertEqual(fields(stat(nodes, text)), fields(stat_of(nodes, followed)))
            self.assertEqual(fields(stat(nodes, text, follow_last=True)), fields(stat_of(nodes, followed)))
            self.assertEqual(fields(stat(nodes, text, follow_last=False)), fields(stat_of(nodes, itself)))

    def test_stat_errors(self):
        nodes = self.nodes()
        for follow_last in (True, False):
            for text, error in UNREADABLE + (
                    ("/x", errors.NotFound), ("/d/x", errors.NotFound), ("/n/", errors.NotFound),
                    ("/d/f/", errors.NotDirectory), ("/l/", errors.NotDirectory), ("/d/f/x", errors.NotDirectory),
                    ("/s/", errors.LinkLoop), ("/s/x", errors.LinkLoop)):
                self.refused(error, stat, nodes, text, follow_last=follow_last)
        self.refused(errors.NotFound, stat, nodes, "/n")
        self.refused(errors.LinkLoop, stat, nodes, "/s")
        self.assertEqual(stat(nodes, "/n", follow_last=False).number, 6)
        self.assertEqual(stat(nodes, "/s", follow_last=False).number, 7)

    def test_readlink(self):
        nodes = self.nodes()
        self.assertEqual([readlink(nodes, text) for text in ("/l", "/m", "/n", "/d/../s")], ["d/f", "d", "none", "s"])
        for text, error in UNREADABLE + (
                ("/", errors.NotLink), ("/d", errors.NotLink), ("/d/f", errors.NotLink), ("/m/", errors.NotLink),
                ("/l/", errors.NotDirectory), ("/d/f/", errors.NotDirectory), ("/x", errors.NotFound),
                ("/n/", errors.NotFound), ("/s/", errors.LinkLoop), ("/d/.", errors.NotLink)):
            self.refused(error, readlink, nodes, text)

    def test_readdir(self):
        nodes = self.nodes()
        root = [("d", 2), ("l", 4), ("m", 5), ("n", 6), ("s", 7)]
        for text, expected in (("/", root), ("/d/..", root), ("/d", [("f", 3)]), ("/m", [("f", 3)]),
                               ("/m/", [("f", 3)])):
            self.assertEqual(readdir(nodes, text), expected)
        for text, error in UNREADABLE + (
                ("/d/f", errors.NotDirectory), ("/l", errors.NotDirectory), ("/l/", errors.NotDirectory),
                ("/x", errors.NotFound), ("/n", errors.NotFound), ("/s", errors.LinkLoop)):
            self.refused(error, readdir, nodes, text)
        create(nodes, "/d/a")
        self.assertEqual(readdir(nodes, "/d"), [("a", 8), ("f", 3)])

    def test_file_at(self):
        nodes = self.nodes()
        self.assertEqual([file_at(nodes, text) for text in ("/d/f", "/l", "/m/f", "/d/../l")], [3, 3, 3, 3])
        for text, error in UNREADABLE + (
                ("/", errors.IsDirectory), ("/d", errors.IsDirectory), ("/m", errors.IsDirectory),
                ("/d/", errors.IsDirectory), ("/d/f/", errors.NotDirectory), ("/l/", errors.NotDirectory),
                ("/x", errors.NotFound), ("/n", errors.NotFound), ("/s", errors.LinkLoop)):
            self.refused(error, file_at, nodes, text)


if __name__ == "__main__":
    unittest.main()
