"""Point 81: inodes."""

import itertools
import unittest

from helpers import LEAST
from segmentfs.nodes.inodes import DIRECTORY, FILE, INODE_OCTETS, LINK, Inode, decode_inode, encode_inode
from segmentfs.trees.files import file_ids, read_file, write_file
from segmentfs.trees.store import Store

FIELDS = ("kind", "links", "size", "height", "root", "parent")


def fields(inode):
    return tuple(getattr(inode, name) for name in FIELDS)


class InodeTest(unittest.TestCase):
    def test_constants(self):
        self.assertEqual((FILE, DIRECTORY, LINK, INODE_OCTETS), (1, 2, 3, 16))

    def test_fields(self):
        self.assertEqual(fields(Inode(FILE)), (1, 1, 0, 0, 0, 0))
        self.assertEqual(fields(Inode(2, 3, 4, 5, 6, 7)), (2, 3, 4, 5, 6, 7))
        inode = Inode(kind=3, parent=9, root=8, height=7, size=6, links=5)
        self.assertEqual(fields(inode), (3, 5, 6, 7, 8, 9))

    def test_is_directory(self):
        self.assertIs(Inode(DIRECTORY).is_directory, True)
        self.assertIs(Inode(FILE).is_directory, False)
        self.assertIs(Inode(LINK).is_directory, False)
        inode = Inode(FILE)
        inode.kind = DIRECTORY
        self.assertIs(inode.is_directory, True)

    def test_inode_is_a_file(self):
        store = Store(LEAST, {})
        inode = Inode(FILE)
        write_file(store, inode, at=60, octets=[1] * 8)
        self.assertEqual(fields(inode), (1, 1, 68, 1, 2, 0))
        self.assertEqual(read_file(store, inode, at=59, count=3), [0, 1, 1])
        self.assertEqual(file_ids(store, inode), [2, 1, 3])


class OctetsTest(unittest.TestCase):
    def test_places_of_the_fields(self):
        inode = Inode(2, links=0x0102, size=0x01020304, height=9, root=0x0506, parent=0x0708)
        self.assertEqual(encode_inode(inode), [2, 2, 1, 4, 3, 2, 1, 9, 6, 5, 8, 7, 0, 0, 0, 0])

    def test_fields_at_the_ends_of_their_octets(self):
        ends = ((1, 2, 3), (0, 255, 256, 65535), (0, 255, 256, 2 ** 24, 2 ** 32 - 1), (0, 1, 255),
                (0, 255, 256, 65535), (0, 255, 256, 65535))
        for values in itertools.product(*ends):
            octets = encode_inode(Inode(*values))
            self.assertEqual((len(octets), octets[12:]), (16, [0, 0, 0, 0]))
            self.assertEqual(fields(decode_inode(octets)), values)

    def test_each_octet_of_the_fields(self):
        seen = set()
        for place in range(12):
            for octet in (1, 2, 3) if place == 0 else (1, 128, 255):
                octets = [1] + [0] * 15
                octets[place] = octet
                inode = decode_inode(octets)
                seen.add(fields(inode))
                self.assertEqual(encode_inode(inode), octets)
        # The kind 1 and each other octet make different inodes.
        self.assertEqual(len(seen), 3 + 11 * 3)

    def test_kinds_that_are_none(self):
        octets = encode_inode(Inode(1, 1, 70, 1, 9, 0))
        for kind in range(256):
            octets[0] = kind
            self.assertEqual(decode_inode(octets) is not None, kind in (1, 2, 3), kind)

    def test_last_octets_are_zeros(self):
        for place in (12, 13, 14, 15):
            for octet in (1, 255):
                octets = encode_inode(Inode(1, 1, 70, 1, 9, 0))
                octets[place] = octet
                self.assertIsNone(decode_inode(octets))

    def test_zeros_are_no_inode(self):
        self.assertIsNone(decode_inode([0] * 16))

    def test_lists_are_new_and_not_changed(self):
        inode = Inode(1)
        encode_inode(inode).clear()
        self.assertEqual(encode_inode(inode), [1, 1] + [0] * 14)
        octets = encode_inode(inode)
        decode_inode(octets).size = 5
        self.assertEqual(octets, [1, 1] + [0] * 14)


if __name__ == "__main__":
    unittest.main()
