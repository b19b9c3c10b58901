"""What the volume needs of files: the pieces of a write (point 117), changes of a node, and what is reserved (121)."""

import random
import unittest

from helpers import GREATEST, LAYOUTS, LEAST, MIDDLE
from segmentfs.checker.files import files_fault
from segmentfs.errors import FileTooLarge
from segmentfs.names.handles import Handles
from segmentfs.nodes.inodes import FILE, Inode
from segmentfs.nodes.nodes import new_nodes, write_node
from segmentfs.trees.files import PlainFile, file_ids, punch_file, read_file, truncate_file, write_file
from segmentfs.trees.store import Store
from segmentfs.volume.files import punch_node, reserved_blocks, truncate_node, write_pieces


class WritePiecesTest(unittest.TestCase):
    def test_without_octets_there_is_no_piece(self):
        for layout in LAYOUTS:
            self.assertEqual(write_pieces(layout, 0, []), [])
            self.assertEqual(write_pieces(layout, 1048577, []), [])

    def test_first_piece_ends_with_the_second_block(self):
        for layout in LAYOUTS:
            size = layout.block_size
            for at in (0, 1, size - 1, size, size + 1, 5 * size + 7):
                octets = [number % 256 for number in range(5 * size)]
                found = write_pieces(layout, at, octets)
                most = 2 * size - at % size
                self.assertEqual(found[0], (at, octets[:most]))
                self.assertEqual(found[1], (at + most, octets[most:most + 2 * size]))
                self.assertEqual(found[1][0] % size, 0)

    def test_just_one_piece(self):
        self.assertEqual(write_pieces(LEAST, 63, [1] * 65), [(63, [1] * 65)])
        self.assertEqual(write_pieces(LEAST, 63, [1] * 66), [(63, [1] * 65), (128, [1])])
        self.assertEqual(write_pieces(LEAST, 64, [1] * 128), [(64, [1] * 128)])
        self.assertEqual(write_pieces(LEAST, 64, [1] * 129), [(64, [1] * 128), (192, [1])])

    def test_pieces_make_up_the_whole(self):
        for seed in range(60):
            chance = random.Random(seed)
            layout = LAYOUTS[seed % 3]
            at = chance.randrange(3000)
            octets = [chance.randrange(256) for _ in range(chance.randrange(2000))]
            end = at
            whole = []
            for offset, piece in write_pieces(layout, at, octets):
                self.assertEqual(offset, end)
                self.assertTrue(piece)
                blocks = set((offset + place) // layout.block_size for place in range(len(piece)))
                self.assertLessEqual(len(blocks), 2)
                whole += piece
                end += len(piece)
            self.assertEqual(whole, octets)

    def test_octets_are_not_changed_or_kept(self):
        octets = [1, 2, 3]
        found = write_pieces(LEAST, 0, octets)
        found[0][1].append(4)
        self.assertEqual(octets, [1, 2, 3])


class NodeFilesTest(unittest.TestCase):
    def test_changes_of_a_node_are_those_of_its_file(self):
        for seed in range(30):
            chance = random.Random(seed)
            layout = (LEAST, MIDDLE, GREATEST)[seed % 3]
            nodes = new_nodes(layout)
            nodes.put(2, Inode(FILE, links=3, parent=0))
            store, file = Store(layout, {}), PlainFile()
            for _ in range(15):
                self.change(chance, nodes, store, file)
                inode = nodes.get(2)
                self.assertEqual((inode.kind, inode.links, inode.size, inode.height), (1, 3, file.size, file.height))
                self.assertEqual(read_file(nodes.store, inode, at=0, count=9000), read_file(
                    store, file, at=0, count=9000))
                self.assertEqual(len(file_ids(nodes.store, inode)), len(file_ids(store, file)))
                self.assertIsNone(files_fault(layout, nodes.store.blocks))

    def change(self, chance, nodes, store, file):
        at, count = chance.choice((chance.randrange(500), chance.randrange(70000))), chance.randrange(150)
        draw = chance.random()
        before = dict(nodes.store.blocks)
        if draw < 0.6:
            piece = [chance.randrange(256)] * min(count, 2 * nodes.layout.block_size - at % nodes.layout.block_size)
            write_node(nodes, 2, at, piece)
            write_file(store, file, at=at, octets=piece)
        elif draw < 0.8:
            truncate_node(nodes, 2, at)
            truncate_file(store, file, at)
        else:
            punch_node(nodes, 2, at, count)
            punch_file(store, file, start=at, end=at + count)
        # Point 111: no change touches more than 15 ids.
        changed = [ident for ident, payload in nodes.store.blocks.items() if before.get(ident) != payload]
        self.assertLessEqual(len(changed), 15)

    def test_punch_that_takes_the_last_blocks(self):
        nodes = new_nodes(LEAST)
        nodes.put(2, Inode(FILE))
        for at in (0, 64 * 40):
            write_node(nodes, 2, at, [1] * 64)
        self.assertEqual((nodes.get(2).height, nodes.get(2).size), (2, 64 * 41))
        punch_node(nodes, 2, 64, 64 * 41)
        self.assertEqual((nodes.get(2).height, nodes.get(2).size), (0, 64 * 41))
        punch_node(nodes, 2, 0, 64)
        self.assertEqual((nodes.get(2).root, nodes.get(2).size), (0, 64 * 41))
        self.assertIsNone(files_fault(LEAST, nodes.store.blocks))

    def test_piece_behind_the_greatest_size(self):
        nodes = new_nodes(LEAST)
        nodes.put(2, Inode(FILE))
        before = dict(nodes.store.blocks)
        for at, octets in ((1048576, [1]), (1048575, [1, 2])):
            with self.assertRaises(FileTooLarge):
                write_node(nodes, 2, at, octets)
        self.assertEqual(nodes.store.blocks, before)
        write_node(nodes, 2, 1048575, [1])
        self.assertEqual(nodes.get(2).size, 1048576)


class ReservedTest(unittest.TestCase):
    def nodes(self):
        """Return nodes whose files 2, 3 and 4 have 0, 1 and 4 blocks."""
        nodes = new_nodes(LEAST)
        for number, count in ((2, 0), (3, 64), (4, 192)):
            nodes.put(number, Inode(FILE))
            write_node(nodes, number, 0, [1] * count)
        return nodes

    def reserved(self, *rows):
        handles = Handles()
        for number, blocks in rows:
            handles.reserve(handles.acquire(number, "both"), blocks)
        return reserved_blocks(self.nodes(), handles)

    def test_nothing_is_open(self):
        self.assertEqual(self.reserved(), 0)

    def test_one_handle(self):
        self.assertEqual([self.reserved((2, blocks)) for blocks in (0, 1, 60000)], [0, 1, 60000])
        self.assertEqual([self.reserved((3, blocks)) for blocks in (0, 1, 2)], [0, 0, 1])
        self.assertEqual([self.reserved((4, blocks)) for blocks in (0, 3, 4, 5, 9)], [0, 0, 0, 1, 5])

    def test_each_handle_counts(self):
        self.assertEqual(self.reserved((4, 6), (4, 6), (3, 2), (2, 0), (4, 1)), 5)

    def test_handles_without_writing(self):
        handles = Handles()
        handles.acquire(4, "read")
        self.assertEqual(reserved_blocks(self.nodes(), handles), 0)

    def test_free_handles_do_not_count(self):
        handles = Handles()
        handles.reserve(handles.acquire(2, "both"), 5)
        handles.reserve(handles.acquire(2, "write"), 7)
        handles.free(0)
        self.assertEqual(reserved_blocks(self.nodes(), handles), 7)


if __name__ == "__main__":
    unittest.main()
