"""Point 82: the superblock and the names of snapshots."""

import itertools
import unittest

from helpers import LAYOUTS, LEAST
from segmentfs.nodes.superblock import (
    NAME_SIGNS, Superblock, decode_superblock, encode_superblock, is_snapshot_name)
from segmentfs.trees.files import read_file, write_file
from segmentfs.trees.store import Store

NAMES = (None, "a", "monday", "abcdefghijkl", "!~")


def fields(superblock):
    return (superblock.size, superblock.height, superblock.root, superblock.names)


class SnapshotNameTest(unittest.TestCase):
    def test_lengths(self):
        self.assertEqual(NAME_SIGNS, 12)
        for length in range(20):
            self.assertIs(is_snapshot_name("x" * length), 1 <= length <= 12, length)

    def test_characters(self):
        for code in range(300):
            expected = 33 <= code <= 126 and code != 37
            self.assertIs(is_snapshot_name(chr(code)), expected, code)
            self.assertIs(is_snapshot_name("ab" + chr(code) + "c"), expected, code)

    def test_names_with_a_space(self):
        for name in (" ", " a", "a ", "a b"):
            self.assertIs(is_snapshot_name(name), False)

    def test_names_that_are_no_names_of_entries(self):
        for name in ("/", ".", "..", "a/b"):
            self.assertIs(is_snapshot_name(name), True)


class SuperblockTest(unittest.TestCase):
    def test_fields(self):
        superblock = Superblock(1, 2, 3, ["a", None, "b"])
        self.assertEqual(fields(superblock), (1, 2, 3, ["a", None, "b"]))
        superblock = Superblock(names=[None] * 3, root=6, height=5, size=4)
        self.assertEqual(fields(superblock), (4, 5, 6, [None] * 3))

    def test_list_of_names_is_copied(self):
        names = ["a", None, "b"]
        superblock = Superblock(0, 0, 0, names)
        names[0] = "z"
        names.append("more")
        self.assertEqual(superblock.names, ["a", None, "b"])
        superblock.names[1] = "c"
        self.assertEqual(names, ["z", None, "b", "more"])

    def test_superblock_is_a_file(self):
        store = Store(LEAST, {})
        superblock = Superblock(0, 0, 0, [None] * 3)
        write_file(store, superblock, at=64, octets=[7])
        self.assertEqual(fields(superblock), (65, 1, 2, [None] * 3))
        self.assertEqual(read_file(store, superblock, at=63, count=9), [0, 7])


class OctetsTest(unittest.TestCase):
    def test_places(self):
        superblock = Superblock(0x01020304, 5, 0x0607, ["ab", None, "cdefghijklmn"])
        head = (4, 3, 2, 1, 5, 7, 6)
        slots = (2, 97, 98) + (0,) * 10 + (0,) * 13 + (12,) + tuple(range(99, 111))
        for layout in LAYOUTS:
            octets = encode_superblock(layout, superblock)
            self.assertIsInstance(octets, tuple)
            self.assertEqual(octets, head + slots + (0,) * (layout.block_size - 46))

    def test_written_and_read(self):
        numbers = ((0, 0, 0), (255, 1, 255), (256, 2, 256), (1048576, 9, 465), (2 ** 32 - 1, 255, 65535))
        for layout in LAYOUTS:
            for size, height, root in numbers:
                for names in itertools.product(NAMES, repeat=3):
                    octets = encode_superblock(layout, Superblock(size, height, root, list(names)))
                    self.assertEqual(len(octets), layout.block_size)
                    for read in (octets, list(octets), octets[:46]):
                        self.assertEqual(fields(decode_superblock(read)), (size, height, root, list(names)))

    def test_zeros(self):
        for count in (46, 64, 128, 256):
            self.assertEqual(fields(decode_superblock([0] * count)), (0, 0, 0, [None] * 3))

    def test_numbers_may_have_any_octets(self):
        for place in range(7):
            octets = [0] * 64
            octets[place] = 255
            self.assertEqual(list(encode_superblock(LEAST, decode_superblock(octets))), octets)

    def octets(self, *slot, at=0):
        octets = [0] * 64
        octets[7 + 13 * at:7 + 13 * at + len(slot)] = slot
        return octets

    def test_lengths_of_names(self):
        for at in range(3):
            for length in range(256):
                slot = [length] + [97] * min(length, 12)
                read = decode_superblock(self.octets(*slot, at=at))
                self.assertEqual(read is not None, length <= 12, length)

    def test_length_that_does_not_fit_the_name(self):
        for at in range(3):
            for slot in ([0, 97], [2, 97], [1, 97, 98], [12] + [97] * 11, [11] + [97] * 12, [0] * 12 + [97],
                         [1, 97] + [0] * 10 + [1], [0] + [97] * 12, [255] + [97] * 12):
                self.assertIsNone(decode_superblock(self.octets(*slot, at=at)), slot)

    def test_characters_of_names(self):
        for at in range(3):
            for octet in range(256):
                expected = 33 <= octet <= 126 and octet != 37
                self.assertEqual(decode_superblock(self.octets(1, octet, at=at)) is not None, expected, octet)
                self.assertEqual(decode_superblock(self.octets(3, 97, octet, 98, at=at)) is not None, expected, octet)

    def test_octets_behind_the_names(self):
        for layout in LAYOUTS:
            whole = encode_superblock(layout, Superblock(32, 0, 2, ["a", "bb", "ccc"]))
            for place in range(46, layout.block_size):
                for octet in (1, 255):
                    octets = list(whole)
                    octets[place] = octet
                    self.assertIsNone(decode_superblock(octets), place)

    def test_two_slots_may_have_one_name(self):
        # That is a fault for the checker; the octets are those of a superblock.
        octets = encode_superblock(LEAST, Superblock(0, 0, 0, ["a", "a", None]))
        self.assertEqual(decode_superblock(octets).names, ["a", "a", None])

    def test_octets_are_not_changed_or_kept(self):
        octets = list(encode_superblock(LEAST, Superblock(1, 2, 3, ["a", None, "b"])))
        before = list(octets)
        superblock = decode_superblock(octets)
        superblock.names[0] = None
        self.assertEqual(octets, before)


if __name__ == "__main__":
    unittest.main()
