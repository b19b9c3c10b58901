"""Point 133: the faults of the names of a volume."""

import random
import unittest

from changepair import Pair, random_step
from helpers import GREATEST, LAYOUTS, LEAST, MIDDLE
from segmentfs.checker.files import files_fault
from segmentfs.checker.names import names_fault
from segmentfs.names.changes import create, link, mkdir, symlink, unlink
from segmentfs.names.renaming import rename
from segmentfs.nodes.directories import add_entry, change_entry, encode_entry, remove_entry
from segmentfs.nodes.inodes import DIRECTORY, FILE, LINK, Inode
from segmentfs.nodes.nodes import new_nodes, write_node
from segmentfs.trees.files import truncate_file, write_file


def small_nodes(layout=LEAST):
    """Return nodes: directories /a (2), /a/b (3), /a/b/c (4), files /f (5) and /a/g (6), the link /l (7)."""
    nodes = new_nodes(layout)
    for text in ("/a", "/a/b", "/a/b/c"):
        mkdir(nodes, text)
    create(nodes, "/f")
    create(nodes, "/a/g")
    symlink(nodes, "a/g", "/l")
    return nodes


def change(nodes, number, **fields):
    """Set fields of an inode."""
    inode = nodes.get(number)
    for name, value in fields.items():
        setattr(inode, name, value)
    nodes.put(number, inode)


def truncate(nodes, number, size):
    inode = nodes.get(number)
    truncate_file(nodes.store, inode, size)
    nodes.put(number, inode)


def new_link(nodes, text):
    """Put a link with these octets or this text, named /new."""
    number = nodes.new_number()
    nodes.put(number, Inode(LINK))
    octets = [ord(sign) for sign in text] if isinstance(text, str) else text
    if octets:
        write_node(nodes, number, 0, octets)
    add_entry(nodes, 1, "new", number)
    return number


class NamesFaultCase(unittest.TestCase):
    def check(self, expected, *steps, layout=LEAST):
        nodes = small_nodes(layout)
        self.assertIsNone(names_fault(nodes))
        for step in steps:
            step(nodes)
        self.assertIsNone(files_fault(layout, nodes.store.blocks))
        before = dict(nodes.store.blocks)
        self.assertEqual(names_fault(nodes), expected)
        self.assertEqual(nodes.store.blocks, before)


class OwnFaultsTest(NamesFaultCase):
    def test_sound_nodes(self):
        for layout in LAYOUTS:
            self.assertIsNone(names_fault(new_nodes(layout)))
            self.check(None, layout=layout)

    def test_too_large(self):
        self.check(None, lambda nodes: change(nodes, 5, size=1048576))
        self.check(("a file is too large", 5), lambda nodes: change(nodes, 5, size=1048577))
        self.check(("a file is too large", 5), lambda nodes: change(nodes, 5, size=2 ** 32 - 1))
        self.check(("a file is too large", 3), lambda nodes: change(nodes, 3, size=1048577))
        self.check(("a file is too large", 7), lambda nodes: change(nodes, 7, size=1048577))

    def names(self, count):
        """Return a step that gives the file 5 so many names."""
        def step(nodes):
            for number in range(count - 1):
                add_entry(nodes, 1, f"n{number}", 5)
            change(nodes, 5, links=count)
        return step

    def test_too_many_names(self):
        self.check(None, self.names(40))
        self.check(("there are too many names", 5), self.names(41))
        self.check(("there are too many names", 3), lambda nodes: change(nodes, 3, links=41))
        self.check(("names are not counted right", 5), lambda nodes: change(nodes, 5, links=40))
        self.check(("there are too many names", 7), lambda nodes: change(nodes, 7, links=65535))

    def test_parent(self):
        for parent in (1, 2, 5, 65535):
            self.check(("a parent is told", 5), lambda nodes: change(nodes, 5, parent=parent))
            self.check(("a parent is told", 7), lambda nodes: change(nodes, 7, parent=parent))

    def test_hole_in_a_link(self):
        for layout in (LEAST, MIDDLE):
            size = layout.block_size
            self.check(("a link has a hole", 8), lambda nodes: (
                new_link(nodes, "x"), change(nodes, 8, size=size + 1)), layout=layout)
            self.check(None, lambda nodes: new_link(nodes, "x" * (size + 1)), layout=layout)
        self.check(("a link has a hole", 8), lambda nodes: (new_link(nodes, ""), change(nodes, 8, size=1)))
        self.check(("a link has a hole", 8), self.link_with_a_hole_in_front)

    def link_with_a_hole_in_front(self, nodes):
        nodes.put(8, Inode(LINK))
        write_node(nodes, 8, 64, [97] * 10)
        add_entry(nodes, 1, "new", 8)

    def test_directory_with_another_count(self):
        for links in (0, 2, 40):
            self.check(("names are not counted right", 3), lambda nodes: change(nodes, 3, links=links))
            self.check(("names are not counted right", 1), lambda nodes: change(nodes, 1, links=links))

    def test_directory_that_ends_within_a_place(self):
        for size in (1, 31, 33, 63):
            self.check(("a directory ends within a place", 4), lambda nodes: write_node(nodes, 4, 0, [0] * size))
        for size in (32, 64, 96):
            self.check(None, lambda nodes: write_node(nodes, 4, 0, [0] * size))

    def test_directory_with_a_hole(self):
        self.check(("a directory has a hole", 4), lambda nodes: change(nodes, 4, size=32))
        self.check(("a directory has a hole", 4), lambda nodes: (
            write_node(nodes, 4, 0, [0] * 64), change(nodes, 4, size=96)))
        self.check(("a directory has a hole", 4), lambda nodes: write_node(nodes, 4, 128, [0] * 32))

    def test_place_without_an_entry(self):
        good = encode_entry("x", 6)
        for place, octet in ((0, 0), (2, 0), (2, 2), (2, 29), (3, 47), (3, 46), (3, 0), (4, 1), (31, 1)):
            bad = list(good)
            bad[place] = octet
            self.check(("a place holds no entry", 4), lambda nodes: write_node(nodes, 4, 0, bad))
            self.check(("a place holds no entry", 4), lambda nodes: write_node(nodes, 4, 32, bad))

    def test_two_of_one_node(self):
        rows = (
            ("a file is too large", dict(size=1048577)), ("there are too many names", dict(links=41)))
        for fault, fields in rows:
            self.check((fault, 5), lambda nodes: change(nodes, 5, parent=3, **fields))
            self.check((fault, 3), lambda nodes: change(nodes, 3, **fields), lambda nodes: change(nodes, 3, parent=9))
        self.check(("a file is too large", 5), lambda nodes: change(nodes, 5, size=1048577, links=41, parent=1))
        self.check(("a parent is told", 8), lambda nodes: (
            new_link(nodes, ""), change(nodes, 8, size=1, parent=1)))
        self.check(("names are not counted right", 4), lambda nodes: (
            write_node(nodes, 4, 128, [1] * 31), change(nodes, 4, links=2)))
        self.check(("a directory ends within a place", 4), lambda nodes: write_node(nodes, 4, 128, [1] * 31))
        self.check(("a directory has a hole", 4), lambda nodes: write_node(nodes, 4, 128, [1] * 32))

    def test_two_of_several_nodes(self):
        self.check(("a parent is told", 5), lambda nodes: change(nodes, 5, parent=1),
                   lambda nodes: change(nodes, 6, size=1048577))
        self.check(("names are not counted right", 3), lambda nodes: change(nodes, 3, links=2),
                   lambda nodes: change(nodes, 5, links=41))
        # What a node alone tells comes ahead of what nodes tell of each other.
        self.check(("a parent is told", 7), lambda nodes: change(nodes, 7, parent=1),
                   lambda nodes: change(nodes, 1, parent=2), lambda nodes: add_entry(nodes, 1, "x", 99))


class TreeFaultsTest(NamesFaultCase):
    def test_no_root_directory(self):
        for kind in (FILE, LINK):
            nodes = new_nodes(LEAST)
            nodes.put(1, Inode(kind))
            self.assertEqual(names_fault(nodes), ("there is no root directory", 1))
        nodes = new_nodes(LEAST)
        nodes.put(2, Inode(DIRECTORY, parent=2))
        nodes.remove(1)
        self.assertEqual(names_fault(nodes), ("there is no root directory", 1))
        nodes.put(2, Inode(FILE, parent=7))
        self.assertEqual(names_fault(nodes), ("a parent is told", 2))

    def test_name_twice(self):
        self.check(("a name occurs twice", 2), lambda nodes: add_entry(nodes, 2, "g", 6))
        self.check(("a name occurs twice", 1), lambda nodes: add_entry(nodes, 1, "f", 99))
        self.check(("a name occurs twice", 1), lambda nodes: add_entry(nodes, 1, "a", 1))
        self.check(("names are not counted right", 5), lambda nodes: add_entry(nodes, 2, "f", 5))

    def test_entry_that_leads_nowhere(self):
        for number in (8, 11, 12, 500, 65535):
            self.check(("an entry leads nowhere", 4), lambda nodes: add_entry(nodes, 4, "x", number))
        self.check(("an entry leads nowhere", 1), lambda nodes: change_entry(nodes, 1, "f", 8))

    def test_root_directory(self):
        self.check(("the root directory has a parent", 1), lambda nodes: change(nodes, 1, parent=2))
        self.check(("the root directory has a parent", 1), lambda nodes: change(nodes, 1, parent=0))
        self.check(("the root directory has a name", 1), lambda nodes: add_entry(nodes, 4, "x", 1))
        self.check(("the root directory has a name", 1), lambda nodes: add_entry(nodes, 1, "x", 1))
        self.check(("the root directory has a parent", 1), lambda nodes: change(nodes, 1, parent=2),
                   lambda nodes: add_entry(nodes, 1, "x", 1))
        self.check(("an entry leads nowhere", 1), lambda nodes: change(nodes, 1, parent=2),
                   lambda nodes: add_entry(nodes, 1, "x", 8))
        self.check(("the root directory has a name", 1), lambda nodes: add_entry(nodes, 4, "x", 1),
                   lambda nodes: add_entry(nodes, 4, "y", 99))

    def test_names_of_a_directory(self):
        self.check(("a directory has not exactly one name", 3), lambda nodes: add_entry(nodes, 1, "x", 3))
        self.check(("a directory has not exactly one name", 3), lambda nodes: add_entry(nodes, 2, "x", 3))
        self.check(("a directory has not exactly one name", 4), lambda nodes: remove_entry(nodes, 3, "c"))
        self.check(("a directory has not exactly one name", 2), lambda nodes: remove_entry(nodes, 1, "a"))

    def test_parent_of_a_directory(self):
        fault = "a parent does not know its directory"
        for parent in (0, 1, 2, 5, 7, 8, 500):
            self.check((fault, 4), lambda nodes: change(nodes, 4, parent=parent))
        self.check((fault, 3), lambda nodes: (remove_entry(nodes, 2, "b"), add_entry(nodes, 1, "b", 3)))
        self.check((fault, 4), lambda nodes: change(nodes, 4, parent=4))

    def test_directory_below_itself(self):
        fault = "a directory lies below itself"
        self.check((fault, 2), lambda nodes: (
            remove_entry(nodes, 1, "a"), add_entry(nodes, 4, "a", 2), change(nodes, 2, parent=4)))
        self.check((fault, 4), lambda nodes: (
            remove_entry(nodes, 3, "c"), add_entry(nodes, 4, "c", 4), change(nodes, 4, parent=4)))
        self.check((fault, 3), lambda nodes: (
            remove_entry(nodes, 2, "b"), add_entry(nodes, 4, "b", 3), change(nodes, 3, parent=4)))

    def test_way_up_through_a_directory_with_a_fault(self):
        # The directory 3 lies in the directory 4, which tells no directory as its parent.
        self.check(("a directory lies below itself", 3), lambda nodes: (
            remove_entry(nodes, 2, "b"), remove_entry(nodes, 3, "c"), add_entry(nodes, 4, "b", 3),
            change(nodes, 3, parent=4), add_entry(nodes, 1, "c", 4), change(nodes, 4, parent=5)))

    def test_long_way_up(self):
        nodes = new_nodes(MIDDLE)
        for number in range(2, 120):
            nodes.put(number, Inode(DIRECTORY, parent=number - 1))
            add_entry(nodes, number - 1, "n", number)
        self.assertIsNone(names_fault(nodes))
        remove_entry(nodes, 1, "n")
        add_entry(nodes, 119, "n", 2)
        change(nodes, 2, parent=119)
        self.assertEqual(names_fault(nodes), ("a directory lies below itself", 2))

    def test_names_of_a_file(self):
        fault = ("names are not counted right", 6)
        for links in (0, 2, 39):
            self.check(fault, lambda nodes: change(nodes, 6, links=links))
        self.check(fault, lambda nodes: add_entry(nodes, 4, "x", 6))
        self.check(fault, lambda nodes: remove_entry(nodes, 2, "g"))
        self.check(None, lambda nodes: link(nodes, "/a/g", "/a/b/c/x"))
        # A file without names is sound.
        self.check(None, lambda nodes: unlink(nodes, "/a/g", [6]))

    def test_names_of_a_link(self):
        fault = ("names are not counted right", 7)
        for links in (0, 2):
            self.check(fault, lambda nodes: change(nodes, 7, links=links))
        self.check(fault, lambda nodes: remove_entry(nodes, 1, "l"))
        self.check(fault, lambda nodes: (remove_entry(nodes, 1, "l"), change(nodes, 7, links=0)))
        self.check(None, lambda nodes: link(nodes, "/l", "/m"))

    def test_texts_of_links(self):
        fault = ("a link has no valid text", 8)
        for text in ("x", "x" * 200, "/", " ", "a//b"):
            self.check(None, lambda nodes: new_link(nodes, text))
        for text in ("", "x" * 201, "%", "a\x1f", "a\x7f", [97, 0], [200], "x" * 199 + "%", "x" * 1000):
            self.check(fault, lambda nodes: new_link(nodes, text))
        self.check(("names are not counted right", 8), lambda nodes: (new_link(nodes, "%"), change(nodes, 8, links=2)))

    def test_two_of_one_directory(self):
        self.check(("a name occurs twice", 4), lambda nodes: (
            add_entry(nodes, 4, "x", 99), add_entry(nodes, 4, "x", 98)))
        self.check(("an entry leads nowhere", 4), lambda nodes: (
            add_entry(nodes, 4, "x", 99), remove_entry(nodes, 3, "c")))
        self.check(("a directory has not exactly one name", 4), lambda nodes: (
            remove_entry(nodes, 3, "c"), change(nodes, 4, parent=1)))
        self.check(("a parent does not know its directory", 4), lambda nodes: (
            change(nodes, 4, parent=4), change(nodes, 6, links=3)))

    def test_two_of_several_nodes(self):
        self.check(("a directory has not exactly one name", 4), lambda nodes: remove_entry(nodes, 3, "c"),
                   lambda nodes: remove_entry(nodes, 1, "f"))
        self.check(("names are not counted right", 5), lambda nodes: change(nodes, 5, links=2),
                   lambda nodes: change(nodes, 6, links=2))
        self.check(("a name occurs twice", 2), lambda nodes: add_entry(nodes, 2, "g", 6),
                   lambda nodes: remove_entry(nodes, 2, "b"))

    def test_order_of_numbers_is_not_that_of_the_tree(self):
        nodes = new_nodes(LEAST)
        create(nodes, "/f")
        mkdir(nodes, "/d")
        unlink(nodes, "/f", [])
        mkdir(nodes, "/d/e")
        self.assertEqual(nodes.get(2).parent, 3)
        self.assertIsNone(names_fault(nodes))
        remove_entry(nodes, 3, "e")
        remove_entry(nodes, 1, "d")
        self.assertEqual(names_fault(nodes), ("a directory has not exactly one name", 2))


class RandomTest(unittest.TestCase):
    def test_nodes_that_changes_leave(self):
        for seed in range(24):
            chance = random.Random(200 + seed)
            pair = Pair(self, (LEAST, MIDDLE, GREATEST)[seed % 3])
            pair.calls["rename"] = rename
            for _ in range(40):
                random_step(chance, pair)
                self.assertIsNone(names_fault(pair.nodes))

    def test_octets_of_inodes(self):
        # Whatever the octets of inodes and directories are, a fault or None is told.
        found = set()
        for seed in range(400):
            chance = random.Random(seed)
            nodes = small_nodes()
            for _ in range(chance.randrange(1, 3)):
                if chance.random() < 0.6:
                    fields = chance.choice(({"links": chance.randrange(4)}, {"parent": chance.randrange(9)}))
                    change(nodes, chance.randrange(1, 8), **fields)
                else:
                    number = chance.choice((1, 2, 3, 4))
                    places = max(nodes.get(number).size // 32, 1)
                    write_node(nodes, number, 32 * chance.randrange(places), encode_entry(
                        chance.choice("abcfgl"), chance.randrange(10)))
            fault = names_fault(nodes)
            found.add(fault and fault[0])
        self.assertGreaterEqual(len(found), 9)

    def test_files_are_not_asked(self):
        # A file with holes and a size of its own is sound here.
        nodes = small_nodes()
        inode = nodes.get(5)
        write_file(nodes.store, inode, at=5000, octets=[1])
        inode.size = 9000
        nodes.put(5, inode)
        truncate(nodes, 6, 777)
        self.assertIsNone(names_fault(nodes))


if __name__ == "__main__":
    unittest.main()
