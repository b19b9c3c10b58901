"""Points 97 to 103, 105, and 109 to 111: changes of names, against a plain model of the tree."""

import random
import unittest

from changepair import Pair, random_step, unsound
from helpers import GREATEST, LAYOUTS, LEAST, MIDDLE
from segmentfs import errors
from segmentfs.checker.files import files_fault
from segmentfs.names.changes import create, link, mkdir, release_name, rmdir, symlink, unlink
from segmentfs.nodes.directories import add_entry, entries, link_text, remove_entry
from segmentfs.nodes.inodes import DIRECTORY, FILE, LINK, Inode
from segmentfs.nodes.nodes import new_nodes
from segmentfs.trees.files import file_ids

LONG = "/" + "x" * 200
LONG_NAME = "/" + "x" * 29
BAD = "/a%"
# A path, and the error of reading it.
UNREADABLE = (
    (LONG, errors.NameTooLong), (LONG_NAME, errors.NameTooLong), ("/a" * 17, errors.NameTooLong),
    (BAD, errors.InvalidPath), ("", errors.InvalidPath), ("a", errors.InvalidPath), ("/\n", errors.InvalidPath))


def small_pair(test, layout=LEAST):
    """Return a pair: directories /d (2) and /d/e (3), files /f (4) and /d/g (5), links /l (6), /m (7), /n (8)."""
    pair = Pair(test, layout)
    for step in (("mkdir", "/d"), ("mkdir", "/d/e"), ("create", "/f"), ("create", "/d/g"), ("symlink", "d", "/l"),
                 ("symlink", "d/g", "/m"), ("symlink", "none", "/n")):
        pair.run(*step)
    return pair


class ChangesCase(unittest.TestCase):
    def refused(self, pair, rows):
        """Check the error of each call."""
        before = pair.rows()
        for error, *call in rows:
            self.assertEqual(pair.run(*call), error, call)
        self.assertEqual(pair.rows(), before)


class MkdirTest(ChangesCase):
    def test_made(self):
        pair = small_pair(self)
        self.assertEqual(pair.run("mkdir", "/d/h"), 9)
        inode = pair.nodes.get(9)
        self.assertEqual((inode.kind, inode.links, inode.size, inode.height, inode.root, inode.parent),
                         (DIRECTORY, 1, 0, 0, 0, 2))
        self.assertEqual(entries(pair.nodes, 2), [("e", 3), ("g", 5), ("h", 9)])

    def test_paths(self):
        pair = small_pair(self)
        for number, (text, directory) in enumerate((
                ("/x", 1), ("/y/", 1), ("//d//z//", 2), ("/l/w", 2), ("/d/e/../v", 2), ("/n/", 1), ("/d/.u", 2),
                ("/l/e/" + "q" * 28, 3)), start=9):
            self.assertEqual(pair.run("mkdir", text), number)
            self.assertEqual(pair.nodes.get(number).parent, directory)

    def test_errors(self):
        pair = small_pair(self)
        self.refused(pair, [(error, "mkdir", text) for text, error in UNREADABLE] + [
            (errors.AlreadyExists, "mkdir", "/"), (errors.AlreadyExists, "mkdir", "/d"),
            (errors.AlreadyExists, "mkdir", "/f/"), (errors.AlreadyExists, "mkdir", "/n"),
            (errors.AlreadyExists, "mkdir", "/l/"), (errors.AlreadyExists, "mkdir", "/d/."),
            (errors.NotFound, "mkdir", "/x/y"), (errors.NotDirectory, "mkdir", "/f/y"),
            (errors.NotDirectory, "mkdir", "/m/y"), (errors.NotFound, "mkdir", "/n/y")])

    def test_name_too_long_behind_a_link(self):
        pair = Pair(self)
        pair.run("symlink", "y" * 29, "/l")
        self.refused(pair, [(errors.NameTooLong, "mkdir", "/l/"), (errors.AlreadyExists, "mkdir", "/l")])


class CreateTest(ChangesCase):
    def test_made(self):
        pair = small_pair(self)
        self.assertEqual(pair.run("create", "/l/x"), 9)
        inode = pair.nodes.get(9)
        self.assertEqual((inode.kind, inode.links, inode.size, inode.height, inode.root, inode.parent),
                         (FILE, 1, 0, 0, 0, 0))
        self.assertEqual(entries(pair.nodes, 2), [("e", 3), ("g", 5), ("x", 9)])

    def test_errors(self):
        pair = small_pair(self)
        self.refused(pair, [(error, "create", text) for text, error in UNREADABLE] + [
            (errors.AlreadyExists, "create", "/"), (errors.AlreadyExists, "create", "/f"),
            (errors.AlreadyExists, "create", "/f/"), (errors.AlreadyExists, "create", "/d/"),
            (errors.AlreadyExists, "create", "/n"), (errors.NotDirectory, "create", "/x/"),
            (errors.NotDirectory, "create", "/n/"), (errors.NotFound, "create", "/x/y/"),
            (errors.NotDirectory, "create", "/f/y")])

    def test_long_name_ahead_of_a_closed_path(self):
        pair = Pair(self)
        pair.run("symlink", "y" * 29, "/l")
        self.refused(pair, [(errors.NameTooLong, "create", "/l/"), (errors.NameTooLong, "symlink", "a", "/l/")])

    def test_least_number(self):
        pair = small_pair(self)
        pair.run("unlink", "/f")
        pair.run("unlink", "/l")
        self.assertEqual([pair.run("create", f"/{name}") for name in "xyz"], [4, 6, 9])


class SymlinkTest(ChangesCase):
    def test_made(self):
        pair = small_pair(self)
        for number, target in enumerate(("a", "/", ".", "../x/", "x" * 200, "y/" * 100, " "), start=9):
            self.assertEqual(pair.run("symlink", target, f"/d/s{number}"), number)
            inode = pair.nodes.get(number)
            self.assertEqual((inode.kind, inode.links, inode.size, inode.parent), (LINK, 1, len(target), 0))
            self.assertEqual(link_text(pair.nodes, number), target)

    def test_errors(self):
        pair = small_pair(self)
        self.refused(pair, [(error, "symlink", "a", text) for text, error in UNREADABLE] + [
            (errors.NameTooLong, "symlink", "x" * 201, "/x"), (errors.InvalidPath, "symlink", "", "/x"),
            (errors.InvalidPath, "symlink", "a%", "/x"), (errors.InvalidPath, "symlink", "\x7f", "/x"),
            (errors.AlreadyExists, "symlink", "a", "/d"), (errors.AlreadyExists, "symlink", "a", "/d/"),
            (errors.AlreadyExists, "symlink", "a", "/n"), (errors.NotDirectory, "symlink", "a", "/x/"),
            (errors.NotDirectory, "symlink", "a", "/n/"), (errors.NotFound, "symlink", "a", "/x/y")])

    def test_texts_in_the_order_of_the_arguments(self):
        pair = small_pair(self)
        self.refused(pair, [
            (errors.InvalidPath, "symlink", "%", LONG), (errors.NameTooLong, "symlink", "x" * 201, BAD),
            (errors.InvalidPath, "symlink", "", "/d"), (errors.NameTooLong, "symlink", "x" * 201, "/x/")])

    def test_text_is_written_ahead_of_the_entry(self):
        for layout in LAYOUTS:
            nodes = new_nodes(layout)
            symlink(nodes, "a", "/l")
            self.assertEqual(file_ids(nodes.store, nodes.get(2)), [3])
            self.assertEqual(file_ids(nodes.store, nodes.get(1)), [4])


class OrderOfStepsTest(unittest.TestCase):
    def test_inode_is_put_first(self):
        # The number 4 is the first one of the second block of inodes: the inode takes the ids 3 (index) and 4.
        for call, ids in ((mkdir, []), (create, []), (lambda nodes, text: symlink(nodes, "b", text), [5])):
            nodes = new_nodes(LEAST)
            for number in (2, 3):
                nodes.put(number, Inode(FILE))
            self.assertEqual(call(nodes, "/a"), 4)
            self.assertEqual(file_ids(nodes.store, nodes.superblock), [3, 2, 4])
            self.assertEqual(file_ids(nodes.store, nodes.get(4)), ids)
            self.assertEqual(file_ids(nodes.store, nodes.get(1)), [5 + len(ids)])

    def test_entry_goes_ahead_of_the_node(self):
        nodes = new_nodes(LEAST)
        create(nodes, "/a")
        unlink(nodes, "/a", [])
        self.assertEqual(nodes.numbers_in_use(), [1])
        self.assertEqual(nodes.get(1).size, 32)
        self.assertEqual(nodes.superblock.size, 32)


class LinkTest(ChangesCase):
    def test_further_names(self):
        pair = small_pair(self)
        self.assertIsNone(pair.run("link", "/f", "/d/e/h"))
        self.assertIsNone(pair.run("link", "/d/e/h", "/d/i"))
        self.assertIsNone(pair.run("link", "/n", "/o"))
        self.assertIsNone(pair.run("link", "/l/g", "/l/h"))
        self.assertEqual([pair.nodes.get(number).links for number in (4, 8, 5)], [3, 2, 2])
        self.assertEqual(entries(pair.nodes, 3), [("h", 4)])
        self.assertEqual(link_text(pair.nodes, 8), "none")

    def test_link_at_the_end_is_not_followed(self):
        pair = small_pair(self)
        pair.run("link", "/m", "/x")
        self.assertEqual([pair.nodes.get(number).links for number in (5, 7)], [1, 2])

    def test_errors(self):
        pair = small_pair(self)
        self.refused(pair, [(error, "link", text, "/x") for text, error in UNREADABLE] + [
            (error, "link", "/f", text) for text, error in UNREADABLE] + [
            (errors.NotFound, "link", "/x", "/y"), (errors.NotFound, "link", "/x/y", "/z"),
            (errors.NotDirectory, "link", "/f/", "/y"), (errors.NotDirectory, "link", "/f/x", "/y"),
            (errors.NotAllowed, "link", "/d", "/y"), (errors.NotAllowed, "link", "/", "/y"),
            (errors.NotAllowed, "link", "/d/", "/y"), (errors.NotAllowed, "link", "/l/", "/y"),
            (errors.AlreadyExists, "link", "/f", "/f"), (errors.AlreadyExists, "link", "/f", "/d"),
            (errors.AlreadyExists, "link", "/f", "/"), (errors.AlreadyExists, "link", "/f", "/n"),
            (errors.NotDirectory, "link", "/f", "/y/"), (errors.NotFound, "link", "/f", "/x/y"),
            (errors.NotDirectory, "link", "/f", "/n/")])

    def test_two_errors_at_once(self):
        pair = small_pair(self)
        self.refused(pair, [
            (errors.NameTooLong, "link", LONG, BAD), (errors.InvalidPath, "link", BAD, LONG),
            (errors.InvalidPath, "link", "/none", BAD), (errors.NotFound, "link", "/none", "/f"),
            (errors.NotAllowed, "link", "/d", "/f"), (errors.NotAllowed, "link", "/d", "/y/"),
            (errors.NotDirectory, "link", "/f/", "/d"), (errors.AlreadyExists, "link", "/f", "/d/")])

    def test_39_and_40_names(self):
        pair = small_pair(self)
        for number in range(38):
            pair.run("link", "/f", f"/d/e/{number}")
        self.assertEqual(pair.nodes.get(4).links, 39)
        self.assertIsNone(pair.run("link", "/f", "/last"))
        self.assertEqual(pair.nodes.get(4).links, 40)
        self.refused(pair, [
            (errors.TooManyNames, "link", "/f", "/more"), (errors.TooManyNames, "link", "/last", "/d/more"),
            (errors.NotDirectory, "link", "/f", "/more/"), (errors.AlreadyExists, "link", "/f", "/last")])
        pair.run("unlink", "/last")
        self.assertIsNone(pair.run("link", "/f", "/more"))
        self.assertEqual(pair.run("link", "/f", "/last"), errors.TooManyNames)

    def test_links_have_at_most_40_names_too(self):
        pair = small_pair(self)
        for number in range(39):
            self.assertIsNone(pair.run("link", "/n", f"/d/e/{number}"))
        self.assertEqual(pair.run("link", "/n", "/more"), errors.TooManyNames)


class UnlinkTest(ChangesCase):
    def test_last_name(self):
        pair = small_pair(self)
        pair.write(4, [1] * 200)
        blocks = pair.nodes.store.block_count
        self.assertIsNone(pair.run("unlink", "/f"))
        self.assertIsNone(pair.nodes.get(4))
        self.assertLess(pair.nodes.store.block_count, blocks - 3)

    def test_one_of_several_names(self):
        pair = small_pair(self)
        pair.run("link", "/f", "/d/x")
        pair.write(4, [1, 2, 3])
        self.assertIsNone(pair.run("unlink", "/f"))
        self.assertEqual(pair.nodes.get(4).links, 1)
        self.assertIsNone(pair.run("unlink", "/d/x"))
        self.assertIsNone(pair.nodes.get(4))

    def test_open_file(self):
        pair = small_pair(self)
        pair.opened = [5, 4]
        pair.write(4, [1] * 100)
        ids = pair.ids(4)
        pair.run("link", "/f", "/x")
        for name, links in (("/f", 1), ("/x", 0)):
            self.assertIsNone(pair.run("unlink", name))
            inode = pair.nodes.get(4)
            self.assertEqual((inode.links, inode.size, pair.ids(4)), (links, 100, ids))
        self.assertEqual(pair.run("create", "/new"), 9)
        pair.close(4)
        self.assertIsNone(pair.nodes.get(4))

    def test_links(self):
        pair = small_pair(self)
        self.assertIsNone(pair.run("unlink", "/m"))
        self.assertIsNone(pair.run("unlink", "/n"))
        self.assertEqual((pair.nodes.get(7), pair.nodes.get(8)), (None, None))
        self.assertEqual(pair.nodes.get(5).links, 1)

    def test_errors(self):
        pair = small_pair(self)
        self.refused(pair, [(error, "unlink", text) for text, error in UNREADABLE] + [
            (errors.IsDirectory, "unlink", "/"), (errors.IsDirectory, "unlink", "/d/.."),
            (errors.IsDirectory, "unlink", "/d/."), (errors.NotFound, "unlink", "/x"),
            (errors.NotFound, "unlink", "/x/"), (errors.IsDirectory, "unlink", "/d"),
            (errors.IsDirectory, "unlink", "/d/"), (errors.IsDirectory, "unlink", "/l/"),
            (errors.NotDirectory, "unlink", "/f/"), (errors.NotDirectory, "unlink", "/m/"),
            (errors.NotFound, "unlink", "/n/"), (errors.NotFound, "unlink", "/x/y"),
            (errors.NotDirectory, "unlink", "/f/y")])


class RmdirTest(ChangesCase):
    def test_empty_directory(self):
        pair = small_pair(self)
        self.assertIsNone(pair.run("rmdir", "/d/e"))
        self.assertIsNone(pair.nodes.get(3))
        self.assertEqual(entries(pair.nodes, 2), [("g", 5)])
        pair.run("mkdir", "/d/e")
        self.assertIsNone(pair.run("rmdir", "/l/e/"))

    def test_directory_with_free_places_alone(self):
        pair = small_pair(self)
        pair.run("create", "/d/e/x")
        self.assertEqual(pair.run("rmdir", "/d/e"), errors.NotEmpty)
        pair.run("unlink", "/d/e/x")
        self.assertEqual(pair.nodes.get(3).size, 32)
        self.assertIsNone(pair.run("rmdir", "/d/e"))

    def test_errors(self):
        pair = small_pair(self)
        self.refused(pair, [(error, "rmdir", text) for text, error in UNREADABLE] + [
            (errors.Busy, "rmdir", "/"), (errors.Busy, "rmdir", "/."), (errors.Busy, "rmdir", "/d/.."),
            (errors.InvalidMove, "rmdir", "/d/."), (errors.InvalidMove, "rmdir", "/d/e/.."),
            (errors.NotFound, "rmdir", "/x"), (errors.NotFound, "rmdir", "/n/"),
            (errors.NotDirectory, "rmdir", "/f"), (errors.NotDirectory, "rmdir", "/f/"),
            (errors.NotDirectory, "rmdir", "/l"), (errors.NotDirectory, "rmdir", "/m/"),
            (errors.NotEmpty, "rmdir", "/d"), (errors.NotEmpty, "rmdir", "/l/"), (errors.NotFound, "rmdir", "/x/y"),
            (errors.NotDirectory, "rmdir", "/f/y")])


class RootTest(ChangesCase):
    def test_root_directory_as_the_object(self):
        pair = small_pair(self)
        for root in ("/", "//", "/.", "/..", "/d/..", "/l/../", "/d/e/../../"):
            self.refused(pair, [
                (errors.AlreadyExists, "mkdir", root), (errors.AlreadyExists, "create", root),
                (errors.AlreadyExists, "symlink", "a", root), (errors.NotAllowed, "link", root, "/x"),
                (errors.AlreadyExists, "link", "/f", root), (errors.IsDirectory, "unlink", root),
                (errors.Busy, "rmdir", root)])

    def test_link_to_the_root_directory(self):
        pair = Pair(self)
        pair.run("symlink", "/", "/r")
        self.refused(pair, [
            (errors.Busy, "rmdir", "/r/"), (errors.NotDirectory, "rmdir", "/r"), (errors.IsDirectory, "unlink", "/r/"),
            (errors.AlreadyExists, "mkdir", "/r/"), (errors.NotAllowed, "link", "/r/", "/x")])
        self.assertIsNone(pair.run("unlink", "/r"))


class ReleaseNameTest(unittest.TestCase):
    def released(self, links, opened):
        """Return the nodes behind releasing the name of file 2, whose entry is removed already."""
        nodes = new_nodes(LEAST)
        create(nodes, "/a")
        inode = nodes.get(2)
        inode.links = links
        nodes.put(2, inode)
        remove_entry(nodes, 1, "a")
        self.assertIsNone(release_name(nodes, 2, opened))
        return nodes

    def test_last_name(self):
        self.assertIsNone(self.released(1, []).get(2))
        self.assertIsNone(self.released(1, [1, 3, 4]).get(2))
        self.assertEqual(self.released(1, [2]).get(2).links, 0)
        self.assertEqual(self.released(1, [1, 2, 2]).get(2).links, 0)

    def test_further_names(self):
        for opened in ([], [2]):
            self.assertEqual(self.released(2, opened).get(2).links, 1)
            self.assertEqual(self.released(40, opened).get(2).links, 39)


class SoundTest(unittest.TestCase):
    """The check of point 109 itself finds what is wrong."""

    def test_new_nodes(self):
        self.assertIsNone(unsound(new_nodes(LEAST), []))

    def test_unsound_nodes(self):
        for spoil in (
                lambda nodes: add_entry(nodes, 1, "x", 9), lambda nodes: add_entry(nodes, 2, "x", 1),
                lambda nodes: add_entry(nodes, 1, "x", 3), lambda nodes: add_entry(nodes, 1, "x", 2),
                lambda nodes: remove_entry(nodes, 1, "f"), lambda nodes: remove_entry(nodes, 1, "d"),
                lambda nodes: add_entry(nodes, 1, "f", 3), lambda nodes: nodes.put(1, Inode(DIRECTORY, parent=2)),
                lambda nodes: nodes.put(3, Inode(FILE, 2)), lambda nodes: nodes.put(3, Inode(FILE, parent=1)),
                lambda nodes: nodes.put(4, Inode(LINK, 0))):
            nodes = new_nodes(LEAST)
            mkdir(nodes, "/d")
            create(nodes, "/f")
            self.assertIsNone(unsound(nodes, []))
            spoil(nodes)
            self.assertIsNotNone(unsound(nodes, []))


class RandomTest(unittest.TestCase):
    def test_random_changes(self):
        for seed in range(36):
            chance = random.Random(seed)
            pair = Pair(self, (LEAST, MIDDLE, GREATEST)[seed % 3])
            for _ in range(60):
                random_step(chance, pair)
            pair.check(dict(pair.nodes.store.blocks))

    def test_many_nodes(self):
        # Inodes and entries in trees of a greater height, and then all of them go again.
        pair = Pair(self)
        for number in range(70):
            pair.run(("mkdir", "create")[number % 2], f"/n{number}")
        for number in range(70):
            pair.run(("rmdir", "unlink")[number % 2], f"/n{number * 29 % 70}" if number % 2 == 0 else
                     f"/n{number}")
        self.assertEqual(pair.nodes.numbers_in_use()[0], 1)
        self.assertIsNone(files_fault(LEAST, pair.nodes.store.blocks))

    def test_changes_concern_no_other_nodes(self):
        pair = small_pair(self)
        pair.write(4, [7] * 300)
        kept = [pair.rows()[number] for number in (3, 4, 6)]
        for step in (("create", "/d/x"), ("link", "/d/g", "/d/y"), ("unlink", "/d/g"), ("mkdir", "/d/z"),
                     ("rmdir", "/d/z"), ("symlink", "a", "/d/w"), ("unlink", "/n")):
            pair.run(*step)
        self.assertEqual([pair.rows()[number] for number in (3, 4, 6)], kept)

    def test_functions_return_what_the_interface_tells(self):
        nodes = new_nodes(LEAST)
        self.assertEqual(mkdir(nodes, "/a"), 2)
        self.assertEqual(create(nodes, "/b"), 3)
        self.assertEqual(symlink(nodes, target="b", text="/c"), 4)
        self.assertIsNone(link(nodes, text="/b", new_text="/d"))
        self.assertIsNone(unlink(nodes, text="/b", opened=[]))
        self.assertIsNone(rmdir(nodes, text="/a"))


if __name__ == "__main__":
    unittest.main()
