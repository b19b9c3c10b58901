"""Points 97, 104, 105, and 109 to 111: renaming."""

import random
import unittest

from changepair import Pair, random_step
from helpers import GREATEST, LEAST, MIDDLE
from segmentfs import errors
from segmentfs.names.changes import create, mkdir
from segmentfs.names.renaming import lies_below, rename
from segmentfs.nodes.directories import places
from segmentfs.nodes.nodes import new_nodes
from test_changes import BAD, LONG, UNREADABLE

LONG_NAME = "y" * 29


def small_pair(test, layout=LEAST):
    """Return a pair: directories /d (2), /d/e (3), files /f (4), /d/g (5), links /l (6), /m (7), /n (8), /o (9)."""
    pair = Pair(test, layout)
    pair.calls["rename"] = rename
    for step in (("mkdir", "/d"), ("mkdir", "/d/e"), ("create", "/f"), ("create", "/d/g"), ("symlink", "d", "/l"),
                 ("symlink", "d/g", "/m"), ("symlink", "none", "/n"), ("symlink", LONG_NAME, "/o")):
        pair.run(*step)
    return pair


class RenameCase(unittest.TestCase):
    def refused(self, pair, rows):
        before = pair.rows()
        for error, text, new_text in rows:
            self.assertEqual(pair.run("rename", text, new_text), error, (text, new_text))
        self.assertEqual(pair.rows(), before)

    def done(self, pair, text, new_text):
        self.assertIsNone(pair.run("rename", text, new_text))


class ErrorsTest(RenameCase):
    def test_reading(self):
        pair = small_pair(self)
        self.refused(pair, [(error, text, "/x") for text, error in UNREADABLE])
        self.refused(pair, [(error, "/f", text) for text, error in UNREADABLE])
        self.refused(pair, [(errors.NameTooLong, LONG, BAD), (errors.InvalidPath, BAD, LONG),
                            (errors.InvalidPath, "/none", BAD), (errors.NameTooLong, "/", LONG)])

    def test_step_1(self):
        self.refused(small_pair(self), (
            (errors.Busy, "/", "/x"), (errors.Busy, "/.", "/x"), (errors.Busy, "/d/..", "/x"),
            (errors.InvalidMove, "/d/.", "/x"), (errors.InvalidMove, "/d/e/..", "/x"),
            (errors.InvalidMove, "/l/.", "/x"), (errors.NotFound, "/x", "/y"), (errors.NotFound, "/x/", "/y"),
            (errors.NotFound, "/n/", "/y"), (errors.NotFound, "/x/y", "/z"), (errors.NotDirectory, "/f/y", "/z"),
            (errors.NotDirectory, "/f/", "/z"), (errors.NotDirectory, "/m/", "/z")))

    def test_step_2(self):
        self.refused(small_pair(self), (
            (errors.Busy, "/f", "/"), (errors.Busy, "/d", "/."), (errors.Busy, "/f", "/d/.."),
            (errors.InvalidMove, "/f", "/d/."), (errors.InvalidMove, "/d/g", "/d/e/.."),
            (errors.InvalidMove, "/f", "/l/."), (errors.NotFound, "/f", "/x/y"), (errors.NotDirectory, "/f", "/f/y"),
            (errors.NotDirectory, "/d", "/m/y")))

    def test_step_3(self):
        self.refused(small_pair(self), (
            (errors.InvalidMove, "/d", "/d/x"), (errors.InvalidMove, "/d", "/d/e/x"),
            (errors.InvalidMove, "/d", "/d/g"), (errors.InvalidMove, "/d", "/d/e"),
            (errors.InvalidMove, "/d", "/l/x"), (errors.InvalidMove, "/l/", "/d/x/"),
            (errors.InvalidMove, "/d/e", "/d/e/x"), (errors.InvalidMove, "/d/e", "/l/e/x")))

    def test_step_4(self):
        self.refused(small_pair(self), (
            (errors.NotDirectory, "/f", "/x/"), (errors.NotDirectory, "/n", "/x/"),
            (errors.NotDirectory, "/f", "/d/e/"), (errors.NotDirectory, "/f", "/n/"),
            (errors.NotDirectory, "/l", "/x//")))

    def test_step_5(self):
        pair = small_pair(self)
        self.refused(pair, ((errors.NameTooLong, "/d", "/o/"), (errors.NameTooLong, "/d/e/", "/o/")))
        pair.run("symlink", "z" * 28, "/p")
        self.done(pair, "/d", "/p/")
        self.assertEqual(pair.model.names(1)["z" * 28], 2)

    def test_step_7(self):
        pair = small_pair(self)
        pair.run("mkdir", "/h")
        self.refused(pair, (
            (errors.NotDirectory, "/h", "/f"), (errors.NotDirectory, "/h", "/l"), (errors.NotDirectory, "/h", "/m/"),
            (errors.NotEmpty, "/h", "/d"), (errors.NotEmpty, "/h", "/l/"), (errors.NotEmpty, "/d/e", "/d"),
            (errors.IsDirectory, "/f", "/d"), (errors.IsDirectory, "/f", "/h"), (errors.IsDirectory, "/n", "/d/e")))

    def test_two_errors_at_once(self):
        pair = small_pair(self)
        self.refused(pair, (
            (errors.Busy, "/", "/d/."), (errors.InvalidMove, "/d/.", "/"), (errors.NotFound, "/x", "/"),
            (errors.NotFound, "/x", "/x/y"), (errors.NotDirectory, "/f/", "/"), (errors.NotDirectory, "/m/", "/d/."),
            (errors.Busy, "/d", "/d/.."), (errors.NotFound, "/d", "/d/x/y"), (errors.NotDirectory, "/d", "/d/g/y"),
            (errors.InvalidMove, "/d", "/d/g"), (errors.InvalidMove, "/d", "/d/x/"), (errors.NotDirectory, "/f", "/d/"),
            (errors.NotDirectory, "/f", "/o/"), (errors.NotDirectory, "/f", "/f/"), (errors.InvalidMove, "/f", "/d/.")))


class NamesTest(RenameCase):
    def test_free_name(self):
        pair = small_pair(self)
        self.done(pair, "/f", "/d/e/new")
        self.assertEqual(pair.model.names(3), {"new": 4})
        self.done(pair, "/n", "/d/n")
        self.done(pair, "/d/g", "/d/gg")
        self.done(pair, "/d/gg", "/" + "q" * 28)
        self.assertNotIn("gg", pair.model.names(2))

    def test_old_place_is_free_for_the_new_name(self):
        nodes = new_nodes(LEAST)
        for name in "abcd":
            create(nodes, "/" + name)
        rename(nodes, "/b", "/z", [])
        self.assertEqual(places(nodes, 1), [("a", 2), ("z", 3), ("c", 4), ("d", 5)])
        rename(nodes, "/c", "/a", [])
        self.assertEqual(places(nodes, 1), [("a", 4), ("z", 3), None, ("d", 5)])
        rename(nodes, "/d", "/e", [])
        self.assertEqual(places(nodes, 1), [("a", 4), ("z", 3), ("e", 5), None])

    def test_names_of_one_node(self):
        pair = small_pair(self)
        pair.run("link", "/f", "/d/x")
        pair.run("link", "/n", "/nn")
        before = dict(pair.nodes.store.blocks)
        for text, new_text in (("/f", "/f"), ("/f", "/d/x"), ("/d/x", "/f"), ("/n", "/nn"), ("/d", "/d"),
                               ("/d/", "/d"), ("/d", "/d/"), ("/l/e", "/d/e/"), ("/d/e", "/l/e"), ("/l", "/l")):
            self.done(pair, text, new_text)
        self.assertEqual(pair.nodes.store.blocks, before)

    def test_directory_gets_another_parent(self):
        pair = small_pair(self)
        pair.run("mkdir", "/h")
        self.done(pair, "/d/e", "/h/e")
        self.assertEqual(pair.nodes.get(3).parent, 10)
        self.done(pair, "/d", "/h/e/d")
        self.assertEqual(pair.nodes.get(2).parent, 3)
        self.done(pair, "/h/e/d", "/h/dd")
        self.assertEqual(pair.nodes.get(2).parent, 10)
        self.done(pair, "/h/e", "/e")
        self.assertEqual(pair.nodes.get(3).parent, 1)
        self.refused(pair, ((errors.InvalidMove, "/h", "/h/dd/x"),))
        self.done(pair, "/h/dd", "/h/ddd")
        self.assertEqual(pair.nodes.get(2).parent, 10)

    def test_files_have_no_parent(self):
        pair = small_pair(self)
        self.done(pair, "/f", "/d/f")
        self.done(pair, "/n", "/d/n")
        self.assertEqual([pair.nodes.get(number).parent for number in (4, 8)], [0, 0])


class ReplacingTest(RenameCase):
    def test_directory_by_a_directory(self):
        pair = small_pair(self)
        pair.run("mkdir", "/d/h")
        self.done(pair, "/d/h", "/d/e")
        self.assertEqual(pair.model.names(2), {"e": 10, "g": 5})
        self.assertIsNone(pair.nodes.get(3))
        pair.run("mkdir", "/i")
        self.done(pair, "/d", "/i/")
        self.assertEqual((pair.nodes.get(2).parent, pair.nodes.get(3)), (1, None))
        pair.run("mkdir", "/j")
        pair.run("mkdir", "/j/k")
        self.done(pair, "/i/e", "/j/k")
        self.assertEqual(pair.nodes.get(10).parent, pair.model.names(1)["j"])

    def test_directory_with_free_places(self):
        pair = small_pair(self)
        pair.run("create", "/d/e/x")
        pair.run("mkdir", "/h")
        self.refused(pair, ((errors.NotEmpty, "/h", "/d/e"),))
        pair.run("unlink", "/d/e/x")
        self.done(pair, "/h", "/d/e")

    def test_file_and_link(self):
        pair = small_pair(self)
        pair.write(5, [1] * 100)
        self.done(pair, "/f", "/d/g")
        self.assertIsNone(pair.nodes.get(5))
        self.done(pair, "/n", "/d/g")
        self.done(pair, "/l", "/m")
        self.assertEqual(sorted(pair.model.nodes), [1, 2, 3, 6, 8, 9])
        pair.run("create", "/new")
        self.done(pair, "/new", "/m")
        self.assertIsNone(pair.nodes.get(6))

    def test_one_name_of_several(self):
        pair = small_pair(self)
        pair.run("link", "/d/g", "/x")
        self.done(pair, "/f", "/d/g")
        self.assertEqual(pair.nodes.get(5).links, 1)
        self.done(pair, "/d/g", "/x")
        self.assertIsNone(pair.nodes.get(5))

    def test_open_file(self):
        pair = small_pair(self)
        pair.opened = [4, 5]
        pair.write(5, [9] * 70)
        ids = pair.ids(5)
        self.done(pair, "/f", "/d/g")
        self.assertEqual((pair.nodes.get(5).links, pair.nodes.get(5).size, pair.ids(5)), (0, 70, ids))
        self.assertEqual(pair.nodes.get(4).links, 1)
        pair.close(5)
        self.assertIsNone(pair.nodes.get(5))

    def test_entry_is_changed_ahead_of_removing_the_old_one(self):
        # The inode of the directory is written in both steps, and its places stay.
        nodes = new_nodes(LEAST)
        mkdir(nodes, "/d")
        create(nodes, "/d/a")
        create(nodes, "/b")
        rename(nodes, "/d/a", "/b", [])
        self.assertEqual((places(nodes, 1), places(nodes, 2)), ([("d", 2), ("b", 3)], [None]))
        self.assertEqual(nodes.numbers_in_use(), [1, 2, 3])


class LiesBelowTest(unittest.TestCase):
    def test_directories(self):
        nodes = new_nodes(LEAST)
        for text in ("/a", "/a/b", "/a/b/c", "/d"):
            mkdir(nodes, text)
        below = {(number, other) for number in range(1, 6) for other in range(1, 6) if lies_below(nodes, number, other)}
        self.assertEqual(below, {(1, 1), (2, 1), (3, 1), (4, 1), (5, 1), (2, 2), (3, 2), (4, 2), (3, 3), (4, 3),
                                 (4, 4), (5, 5)})
        self.assertIs(lies_below(nodes, 4, 2), True)
        self.assertIs(lies_below(nodes, 2, 4), False)


class RandomTest(unittest.TestCase):
    def test_random_changes(self):
        for seed in range(45):
            chance = random.Random(seed)
            pair = Pair(self, (LEAST, MIDDLE, GREATEST)[seed % 3])
            pair.calls["rename"] = rename
            for _ in range(70):
                if chance.random() < 0.2:
                    self.rename(chance, pair)
                random_step(chance, pair)
            pair.check(dict(pair.nodes.store.blocks))

    def rename(self, chance, pair):
        """Rename a node to one of its own kind, or below itself."""
        ways = [("/" + "/".join(way), number) for way, number in pair.model.ways(1)]
        text, number = chance.choice(ways)
        same = [other for other, each in ways if pair.model.nodes[each].kind == pair.model.nodes[number].kind]
        pair.run("rename", text, chance.choice((chance.choice(same), text + "/x", chance.choice(same))))


if __name__ == "__main__":
    unittest.main()
