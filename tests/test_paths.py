"""Points 91 and 92: paths and the texts of symbolic links."""

import random
import unittest

from namesmodel import NamesModel
from segmentfs.errors import InvalidPath, NameTooLong, SegmentError
from segmentfs.names.paths import (
    MOST_FOLLOWED, MOST_LINKS, MOST_NAME, MOST_NAMES, MOST_PATH, Path, read_path, read_target)


def read(text):
    path = read_path(text)
    return (path.parts, path.closed)


class PathTest(unittest.TestCase):
    def test_constants(self):
        self.assertEqual((MOST_NAME, MOST_PATH, MOST_NAMES, MOST_FOLLOWED, MOST_LINKS), (28, 200, 16, 8, 40))

    def test_fields(self):
        parts = ["a", "b"]
        path = Path(parts, True)
        self.assertEqual((path.parts, path.closed), (["a", "b"], True))
        parts.append("c")
        self.assertEqual(path.parts, ["a", "b"])
        path = Path(closed=False, parts=[])
        self.assertEqual((path.parts, path.closed), ([], False))


class ReadPathTest(unittest.TestCase):
    def check(self, text, error):
        with self.assertRaises(SegmentError, msg=text) as caught:
            read_path(text)
        self.assertIs(type(caught.exception), error, text)

    def test_ordinary_paths(self):
        self.assertEqual(read("/a"), (["a"], False))
        self.assertEqual(read("/a/b/c"), (["a", "b", "c"], False))
        self.assertEqual(read("/a b/!~"), (["a b", "!~"], False))
        self.assertEqual(read("/./../..."), ([".", "..", "..."], False))
        self.assertEqual(read("/ "), ([" "], False))

    def test_slashes(self):
        for text in ("/", "//", "/" * 200):
            self.assertEqual(read(text), ([], False))
        self.assertEqual(read("//a///b"), (["a", "b"], False))
        self.assertEqual(read("/a/"), (["a"], True))
        self.assertEqual(read("/a//"), (["a"], True))
        self.assertEqual(read("/a/b////"), (["a", "b"], True))
        self.assertEqual(read("/./"), (["."], True))
        self.assertIs(read_path("/a/").closed, True)
        self.assertIs(read_path("/a").closed, False)
        self.assertIs(read_path("/").closed, False)

    def test_no_slash_at_the_beginning(self):
        for text in ("", "a", "a/", "a/b", " /a", ".", "..", "\\a"):
            self.check(text, InvalidPath)

    def test_characters_that_no_text_has(self):
        for sign in ("%", "\n", "\t", "\x00", "\x1f", "\x7f", "\x80", "\xe4", "\u20ac"):
            self.check("/" + sign, InvalidPath)
            self.check("/a" + sign + "b/c", InvalidPath)
            self.check(sign, InvalidPath)
            self.check("/a/" + sign, InvalidPath)
        for code in range(32, 127):
            if code not in (37, 47):
                self.assertEqual(read("/" + chr(code)), ([chr(code)], False))

    def test_lengths_of_paths(self):
        # Seven names of 27 characters, with a slash ahead of each, have 196 characters.
        text = ("/" + "x" * 27) * 7
        for more in ("", "/", "/a", "/abc"):
            self.assertEqual(read(text + more)[0][:7], ["x" * 27] * 7)
        self.assertEqual(len(text + "/abc"), 200)
        self.check(text + "/abcd", NameTooLong)
        self.check("/" * 201, NameTooLong)
        self.check("x" * 201, NameTooLong)
        self.check("x" * 200, InvalidPath)

    def test_lengths_of_names(self):
        self.assertEqual(read("/" + "x" * 28), (["x" * 28], False))
        self.assertEqual(read("/a/" + "x" * 28 + "/"), (["a", "x" * 28], True))
        for text in ("/" + "x" * 29, "/a/" + "x" * 29, "/" + "x" * 29 + "/a", "/" + "x" * 199):
            self.check(text, NameTooLong)

    def test_numbers_of_names(self):
        self.assertEqual(read("/a" * 16), (["a"] * 16, False))
        self.assertEqual(read("//a" * 16 + "/"), (["a"] * 16, True))
        self.assertEqual(read("/." * 16), (["."] * 16, False))
        self.check("/a" * 17, NameTooLong)
        self.check("/." * 17, NameTooLong)
        self.check("/a" * 17 + "/", NameTooLong)

    def test_two_errors_at_once(self):
        self.check("a" * 201, NameTooLong)
        self.check("/" + "%" * 200, NameTooLong)
        self.check("%" + "a" * 200, NameTooLong)
        self.check("a" * 29, InvalidPath)
        self.check("/" + "a" * 28 + "%", InvalidPath)
        self.check("/%" * 17, InvalidPath)
        self.check("a/" * 17, InvalidPath)
        self.check("/" + "a" * 29 + "/a" * 17, NameTooLong)

    def test_lists_are_new(self):
        read_path("/a/b").parts.clear()
        self.assertEqual(read("/a/b"), (["a", "b"], False))

    def test_random_strings(self):
        model = NamesModel()
        chance = random.Random(1)
        for _ in range(3000):
            count = chance.choice((3, 30, 190, 205))
            weights = chance.choice(((6, 3, 0), (10, 1, 0), (9, 3, 1), (40, 1, 0)))
            text = "".join(chance.choices(("x", "/", "%"), weights=weights, k=chance.randrange(count)))
            text = chance.choice(("/", "/", "/", "")) + text
            self.assertEqual(self.outcome(read, text), self.outcome(model.read, text), text)

    def outcome(self, call, text):
        try:
            return tuple(call(text))
        except SegmentError as error:
            return type(error)


class ReadTargetTest(unittest.TestCase):
    def check(self, text, error):
        with self.assertRaises(SegmentError, msg=text) as caught:
            read_target(text)
        self.assertIs(type(caught.exception), error, text)

    def test_ordinary_texts(self):
        self.assertEqual(read_target("a"), ["a"])
        self.assertEqual(read_target("/a/b"), ["a", "b"])
        self.assertEqual(read_target("../a//b/"), ["..", "a", "b"])
        self.assertEqual(read_target("."), ["."])
        self.assertEqual(read_target(" "), [" "])

    def test_no_names(self):
        self.assertEqual(read_target("/"), [])
        self.assertEqual(read_target("/" * 200), [])

    def test_lengths(self):
        self.assertEqual(read_target("x" * 200), ["x" * 200])
        self.assertEqual(read_target("x" * 29 + "/" + "y" * 170), ["x" * 29, "y" * 170])
        self.assertEqual(read_target("a/" * 100), ["a"] * 100)
        self.check("x" * 201, NameTooLong)
        self.check("a/" * 100 + "/", NameTooLong)

    def test_empty_and_wrong_characters(self):
        self.check("", InvalidPath)
        for sign in ("%", "\n", "\x7f", "\xff", "\x00"):
            self.check(sign, InvalidPath)
            self.check("a/b" + sign, InvalidPath)
        self.check("%" * 200, InvalidPath)
        self.check("%" * 201, NameTooLong)


if __name__ == "__main__":
    unittest.main()
