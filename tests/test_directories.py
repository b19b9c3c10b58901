"""Points 87 to 90: the places and the entries of directories; and the texts of symbolic links."""

import random
import unittest

from helpers import GREATEST, LAYOUTS, LEAST, MIDDLE, run_example
from namesmodel import SIGNS
from segmentfs.checker.files import files_fault
from segmentfs.nodes.directories import (
    ENTRY_OCTETS, MOST_SIGNS, add_entry, change_entry, decode_entry, encode_entry, entries, find_entry, is_name,
    link_text, places, remove_entry, write_link_text)
from segmentfs.nodes.inodes import DIRECTORY, FILE, LINK, Inode
from segmentfs.nodes.nodes import new_nodes
from segmentfs.trees.files import block_numbers, file_ids, read_file


def octets_of(nodes, number):
    return read_file(nodes.store, nodes.get(number), at=0, count=2 ** 20)


class EntryTest(unittest.TestCase):
    def test_example(self):
        run_example(self, """
>>> from segmentfs.nodes.directories import encode_entry
>>> encode_entry("log", 2)[:8]
[2, 0, 3, 108, 111, 103, 0, 0]
""")

    def test_constants(self):
        self.assertEqual((ENTRY_OCTETS, MOST_SIGNS), (32, 28))

    def test_names(self):
        for name in ("a", "ab", "...", ".a", "a.", "..a", " ", "  ", "~", "!", "#$&'()*+,-.", "\\\"", "x" * 28):
            self.assertIs(is_name(name), True, name)
        for name in ("", ".", "..", "/", "a/b", "/a", "a/", "x" * 29, "a%b", "%", "\n", "a\tb", "\x7f", "\x1f",
                     "\xe9", "a\x00", "\u20ac"):
            self.assertIs(is_name(name), False, name)

    def test_each_character(self):
        for code in range(400):
            self.assertEqual(is_name(chr(code)), 32 <= code <= 126 and code not in (37, 46, 47), code)
            self.assertEqual(is_name("a" + chr(code)), 32 <= code <= 126 and code not in (37, 47), code)

    def test_lengths(self):
        for length in (1, 2, 27, 28):
            octets = encode_entry("x" * length, 258)
            self.assertEqual(octets, [2, 1, length] + [120] * length + [0] * (29 - length))
            self.assertEqual(decode_entry(octets), ("x" * length, 258))

    def test_numbers(self):
        for number in (1, 255, 256, 65535):
            self.assertEqual(encode_entry("a", number)[:2], [number % 256, number // 256])
            self.assertEqual(decode_entry(encode_entry("a", number)), ("a", number))

    def test_octets_that_are_no_entry(self):
        self.assertIsNone(decode_entry([0] * 32))
        good = [7, 0, 3, 97, 98, 99] + [0] * 26
        self.assertEqual(decode_entry(good), ("abc", 7))
        for place, octet in ((0, 0), (2, 0), (2, 2), (2, 4), (2, 28), (2, 29), (2, 255), (3, 0), (3, 31), (4, 37),
                             (4, 47), (5, 127), (5, 128), (5, 255), (6, 1), (6, 97), (31, 1)):
            bad = list(good)
            bad[place] = octet
            self.assertIsNone(decode_entry(bad), (place, octet))
        self.assertIsNone(decode_entry([1, 0, 1, 46] + [0] * 28))
        self.assertIsNone(decode_entry([1, 0, 2, 46, 46] + [0] * 27))
        self.assertEqual(decode_entry([1, 0, 3, 46, 46, 46] + [0] * 26), ("...", 1))
        self.assertIsNone(decode_entry([1, 0, 29] + [97] * 29))
        self.assertEqual(decode_entry([1, 0, 28] + [97] * 28 + [0]), ("a" * 28, 1))
        self.assertIsNone(decode_entry([1, 0, 28] + [97] * 29))

    def test_each_octet_of_an_entry(self):
        good = encode_entry("no.1", 300)
        for place in range(32):
            for octet in range(256):
                changed = list(good)
                changed[place] = octet
                self.check_octets(changed)

    def check_octets(self, octets):
        """Compare with a check octet by octet, from the table of point 87."""
        number, length, rest = octets[0] + 256 * octets[1], octets[2], octets[3:]
        name = "".join(chr(octet) for octet in rest[:length])
        good = number >= 1 and 1 <= length <= 28 and name not in (".", "..")
        good = good and all(octet == 0 for octet in rest[length:])
        good = good and all(32 <= octet <= 126 and octet not in (37, 47) for octet in rest[:length])
        self.assertEqual(decode_entry(octets), (name, number) if good else None)
        self.assertEqual(octets, list(octets))

    def test_octets_are_not_changed(self):
        octets = encode_entry("a", 1)
        decode_entry(octets)
        self.assertEqual(octets, [1, 0, 1, 97] + [0] * 28)


class PlacesTest(unittest.TestCase):
    def directory(self, *names):
        nodes = new_nodes(LEAST)
        for number, name in enumerate(names, start=2):
            add_entry(nodes, 1, name, number)
        return nodes

    def test_empty_directory(self):
        nodes = new_nodes(LEAST)
        self.assertEqual((places(nodes, 1), entries(nodes, 1), find_entry(nodes, 1, "a")), ([], [], 0))

    def test_places_are_added_at_the_end(self):
        nodes = self.directory("c", "a", "b")
        self.assertEqual(places(nodes, 1), [("c", 2), ("a", 3), ("b", 4)])
        self.assertEqual(nodes.get(1).size, 96)
        self.assertEqual(octets_of(nodes, 1), encode_entry("c", 2) + encode_entry("a", 3) + encode_entry("b", 4))

    def test_removed_names_leave_their_places(self):
        for name, place in (("c", 0), ("a", 1), ("b", 2)):
            nodes = self.directory("c", "a", "b")
            before = octets_of(nodes, 1)
            remove_entry(nodes, 1, name)
            after = octets_of(nodes, 1)
            self.assertEqual(after, before[:32 * place] + [0] * 32 + before[32 * place + 32:])
            self.assertEqual(nodes.get(1).size, 96)
            self.assertIsNone(places(nodes, 1)[place])
            add_entry(nodes, 1, "d", 9)
            self.assertEqual(places(nodes, 1)[place], ("d", 9))
            self.assertEqual(len(places(nodes, 1)), 3)
            add_entry(nodes, 1, "e", 9)
            self.assertEqual(places(nodes, 1)[3:], [("e", 9)])

    def test_first_free_place(self):
        nodes = self.directory("a", "b", "c", "d", "e")
        for name in ("e", "c", "d"):
            remove_entry(nodes, 1, name)
        for name in ("x", "y", "z", "w"):
            add_entry(nodes, 1, name, 7)
        self.assertEqual([name for name, _ in places(nodes, 1)], ["a", "b", "x", "y", "z", "w"])

    def test_all_places_free(self):
        nodes = self.directory("a", "b")
        remove_entry(nodes, 1, "a")
        remove_entry(nodes, 1, "b")
        self.assertEqual((places(nodes, 1), entries(nodes, 1)), ([None, None], []))
        self.assertEqual((nodes.get(1).size, octets_of(nodes, 1)), (64, [0] * 64))

    def test_name_with_another_number(self):
        nodes = self.directory("a", "ab", "b")
        before = octets_of(nodes, 1)
        change_entry(nodes, 1, "ab", 513)
        self.assertEqual(octets_of(nodes, 1), before[:32] + encode_entry("ab", 513) + before[64:])
        self.assertEqual(entries(nodes, 1), [("a", 2), ("ab", 513), ("b", 4)])
        self.assertEqual(find_entry(nodes, 1, "ab"), 513)

    def test_names_that_begin_alike(self):
        names = ["abc", "ab", "abcd", "a", "abd", "abc ", "b"]
        nodes = self.directory(*names)
        for number, name in enumerate(names, start=2):
            self.assertEqual(find_entry(nodes, 1, name), number)
        for name in ("", "abcde", "ac", " abc", "ABC"):
            self.assertEqual(find_entry(nodes, 1, name), 0)

    def test_order_of_names(self):
        names = ["b", "ab", "a", "abc", "abd", "aBd", "~", "!", " ", "A", "a-", "a0", "aa", "-a", "ba"]
        nodes = self.directory(*names)
        self.assertEqual([name for name, _ in entries(nodes, 1)], [
            " ", "!", "-a", "A", "a", "a-", "a0", "aBd", "aa", "ab", "abc", "abd", "b", "ba", "~"])

    def test_names_that_differ_in_one_character(self):
        middle = "x" * 28
        names = [middle, "y" + middle[1:], middle[:14] + "y" + middle[15:], middle[:27] + "y", middle[:27]]
        nodes = self.directory(*names)
        self.assertEqual([name for name, _ in entries(nodes, 1)], [names[4], names[0], names[3], names[2], names[1]])
        for number, name in enumerate(names, start=2):
            self.assertEqual(find_entry(nodes, 1, name), number)

    def test_lists_are_new(self):
        nodes = self.directory("a", "b")
        places(nodes, 1).clear()
        entries(nodes, 1).clear()
        self.assertEqual(entries(nodes, 1), [("a", 2), ("b", 3)])

    def test_one_write_and_then_the_inode(self):
        nodes = self.directory("a", "b")
        self.assertEqual(file_ids(nodes.store, nodes.get(1)), [3])
        add_entry(nodes, 1, "c", 4)
        self.assertEqual(file_ids(nodes.store, nodes.get(1)), [4, 3, 5])
        before = dict(nodes.store.blocks)
        change_entry(nodes, 1, "c", 9)
        changed = [ident for ident, payload in nodes.store.blocks.items() if before[ident] != payload]
        self.assertEqual(changed, [5])

    def test_random_changes(self):
        for seed in range(30):
            self.check_changes(random.Random(seed), LAYOUTS[seed % 3])

    def check_changes(self, chance, layout):
        nodes = new_nodes(layout)
        for number in (2, 3):
            nodes.put(number, Inode(DIRECTORY, parent=1))
        model = {1: [], 2: [], 3: []}
        for _ in range(60):
            number = chance.randrange(1, 4)
            there = [entry[0] for entry in model[number] if entry]
            self.change(chance, nodes, number, model[number], there)
            for each, rows in model.items():
                self.assertEqual(places(nodes, each), rows)
                self.assertEqual(entries(nodes, each), sorted(row for row in rows if row))
                self.assertEqual(nodes.get(each).size, 32 * len(rows))
                inode = nodes.get(each)
                self.assertEqual(len(block_numbers(nodes.store, inode)), -(-inode.size // layout.block_size))
        self.assertIsNone(files_fault(layout, nodes.store.blocks))

    def change(self, chance, nodes, number, rows, there):
        draw, target = chance.random(), chance.randrange(1, 65536)
        name = "".join(chance.choice(SIGNS).replace("/", "|") for _ in range(chance.randrange(1, 29)))
        if there and draw < 0.45:
            name = chance.choice(there)
            rows[[row and row[0] for row in rows].index(name)] = None
            remove_entry(nodes, number, name)
        elif there and draw < 0.6:
            name = chance.choice(there)
            rows[[row and row[0] for row in rows].index(name)] = (name, target)
            change_entry(nodes, number, name, target)
        elif name not in there and name not in (".", ".."):
            if None in rows:
                rows[rows.index(None)] = (name, target)
            else:
                rows.append((name, target))
            add_entry(nodes, number, name, target)


class LinkTextTest(unittest.TestCase):
    def test_no_text_yet(self):
        nodes = new_nodes(LEAST)
        nodes.put(2, Inode(LINK))
        self.assertEqual(link_text(nodes, 2), "")

    def test_lengths_beside_the_edges_of_blocks(self):
        for layout in LAYOUTS:
            size = layout.block_size
            for length in sorted({1, 2, size - 1, size, size + 1, 2 * size - 1, 2 * size, 2 * size + 1, 200}):
                text = "".join(SIGNS[place % len(SIGNS)] for place in range(length))
                nodes = new_nodes(layout)
                nodes.put(2, Inode(FILE))
                nodes.put(3, Inode(LINK, 4))
                write_link_text(nodes, 3, text)
                inode = nodes.get(3)
                self.assertEqual((inode.kind, inode.links, inode.size), (LINK, 4, length))
                self.assertEqual(link_text(nodes, 3), text)
                self.assertEqual(octets_of(nodes, 3), [ord(sign) for sign in text])
                self.assertEqual(block_numbers(nodes.store, inode), list(range(-(-length // size))))
                self.assertIsNone(files_fault(layout, nodes.store.blocks))

    def test_each_character(self):
        for layout in (LEAST, MIDDLE, GREATEST):
            nodes = new_nodes(layout)
            nodes.put(2, Inode(LINK))
            write_link_text(nodes, 2, "".join(SIGNS))
            self.assertEqual(link_text(nodes, 2), "".join(SIGNS))


if __name__ == "__main__":
    unittest.main()
