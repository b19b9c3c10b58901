"""Points 72 to 79: files."""

import random
import unittest

from helpers import GREATEST, LAYOUTS, LEAST, FileModel, run_example
from segmentfs.device.block import DATA
from segmentfs.errors import FileTooLarge
from segmentfs.trees.files import (
    MOST_OCTETS, PlainFile, block_numbers, blocks_by_numbers, file_ids, next_data, next_hole, punch_file, read_file,
    release_file, truncate_file, write_file)
from segmentfs.trees.radix import block_id, walk_tree
from segmentfs.trees.store import Store

EXAMPLE = """
>>> from segmentfs.geometry.layout import Layout
>>> from segmentfs.trees.store import Store
>>> from segmentfs.trees.files import PlainFile, write_file, next_data, next_hole, file_ids
>>> store = Store(Layout(4, 16, 64), {})
>>> file = PlainFile()
>>> write_file(store, file, at=100, octets=[1, 2, 3])
>>> (file.size, file.height, file.root)
(103, 1, 2)
>>> (next_data(store, file, 0), next_hole(store, file, 64), next_hole(store, file, 0))
(64, 103, 0)
>>> file_ids(store, file)
[2, 1]
"""


class OtherFile:
    """A file with more fields than a PlainFile: any object with the three fields is a file."""

    def __init__(self):
        self.kind = 1
        self.size = 0
        self.height = 0
        self.root = 0


def file_with(layout, *pieces, size=None):
    """Return a store and a file to which the pieces (offset, octets) were written."""
    store = Store(layout, {})
    file = PlainFile()
    for at, octets in pieces:
        write_file(store, file, at=at, octets=octets)
    if size is not None:
        truncate_file(store, file, size)
    return store, file


def whole(store, file):
    return read_file(store, file, at=0, count=file.size)


def state(store, file):
    return (file.size, file.height, file.root, dict(store.blocks))


class PlainFileTest(unittest.TestCase):
    def test_example(self):
        run_example(self, EXAMPLE)

    def test_fields(self):
        self.assertEqual(vars(PlainFile()), {"size": 0, "height": 0, "root": 0})
        self.assertEqual(vars(PlainFile(103, 1, 2)), {"size": 103, "height": 1, "root": 2})
        self.assertEqual(vars(PlainFile(root=5, size=7)), {"size": 7, "height": 0, "root": 5})

    def test_greatest_size(self):
        self.assertEqual(MOST_OCTETS, 1048576)

    def test_any_object_with_the_fields_is_a_file(self):
        store = Store(LEAST, {})
        file = OtherFile()
        write_file(store, file, at=60, octets=[1] * 10)
        truncate_file(store, file, 65)
        punch_file(store, file, start=60, end=62)
        self.assertEqual(whole(store, file), [0] * 62 + [1] * 3)
        self.assertEqual((file.kind, next_data(store, file, 0), next_hole(store, file, 0)), (1, 0, 65))
        release_file(store, file)
        self.assertEqual((file.kind, file.size, file.height, file.root, store.blocks), (1, 0, 0, 0, {}))


class ReadTest(unittest.TestCase):
    def test_holes_read_as_0(self):
        store, file = file_with(LEAST, (100, [1, 2, 3]), size=300)
        self.assertEqual(whole(store, file), [0] * 100 + [1, 2, 3] + [0] * 197)
        self.assertEqual(read_file(store, file, at=200, count=50), [0] * 50)

    def test_count_is_the_most(self):
        store, file = file_with(LEAST, (0, list(range(200))))
        self.assertEqual(read_file(store, file, at=0, count=0), [])
        self.assertEqual(read_file(store, file, at=63, count=1), [63])
        self.assertEqual(read_file(store, file, at=63, count=2), [63, 64])
        self.assertEqual(read_file(store, file, at=64, count=64), list(range(64, 128)))
        self.assertEqual(read_file(store, file, at=10, count=150), list(range(10, 160)))

    def test_none_from_the_size_on(self):
        store, file = file_with(LEAST, (0, list(range(200))))
        self.assertEqual(read_file(store, file, at=190, count=100), list(range(190, 200)))
        self.assertEqual(read_file(store, file, at=199, count=1), [199])
        self.assertEqual(read_file(store, file, at=199, count=2), [199])
        self.assertEqual(read_file(store, file, at=200, count=1), [])
        self.assertEqual(read_file(store, file, at=201, count=5), [])
        self.assertEqual(read_file(store, file, at=1048576, count=1048576), [])
        self.assertEqual(read_file(store, file, at=5000000, count=5000000), [])

    def test_empty_file(self):
        store, file = file_with(LEAST)
        self.assertEqual(read_file(store, file, at=0, count=100), [])

    def test_list_is_new_and_nothing_changes(self):
        store, file = file_with(LEAST, (0, [5] * 64))
        before = state(store, file)
        read_file(store, file, at=0, count=64)[0] = 9
        self.assertEqual(read_file(store, file, at=0, count=64), [5] * 64)
        self.assertEqual(state(store, file), before)


class WriteTest(unittest.TestCase):
    def test_octets_in_their_places(self):
        store, file = file_with(LEAST, (0, [1] * 130))
        self.assertIsNone(write_file(store, file, at=62, octets=[2] * 4))
        self.assertEqual(whole(store, file), [1] * 62 + [2] * 4 + [1] * 64)
        self.assertEqual(file.size, 130)

    def test_size_is_the_greater_one(self):
        store, file = file_with(LEAST, (0, [1] * 100))
        write_file(store, file, at=99, octets=[2])
        self.assertEqual(file.size, 100)
        write_file(store, file, at=100, octets=[2])
        self.assertEqual(file.size, 101)
        write_file(store, file, at=99, octets=[3, 3, 3])
        self.assertEqual(file.size, 102)

    def test_no_blocks_between_the_size_and_the_offset(self):
        store, file = file_with(LEAST, (0, [1]), (64 * 5, [2]))
        self.assertEqual(block_numbers(store, file), [0, 5])
        self.assertEqual(whole(store, file), [1] + [0] * 319 + [2])

    def test_blocks_in_which_an_octet_lies_and_no_others(self):
        for at, count, numbers in ((0, 64, [0]), (0, 65, [0, 1]), (63, 1, [0]), (63, 2, [0, 1]), (64, 1, [1]),
                                   (64, 64, [1]), (64, 65, [1, 2]), (63, 66, [0, 1, 2]), (128, 128, [2, 3])):
            store, file = file_with(LEAST, (at, [1] * count))
            self.assertEqual(block_numbers(store, file), numbers)

    def test_blocks_get_their_ids_in_ascending_order(self):
        store, file = file_with(LEAST, (0, [1] * 192))
        ids = [block_id(store, file, number) for number in range(3)]
        self.assertEqual((ids, file.root), ([1, 3, 4], 2))

    def test_block_of_zeros_is_there(self):
        store, file = file_with(LEAST, (64, [0] * 64))
        self.assertEqual(block_numbers(store, file), [1])
        self.assertEqual(store.get(block_id(store, file, 1)), (DATA, (0,) * 64))

    def test_no_octets_change_nothing(self):
        for at in (0, 5, 64, 1000, 1048575, 1048576):
            store, file = file_with(LEAST, (0, [1] * 100))
            before = state(store, file)
            write_file(store, file, at=at, octets=[])
            self.assertEqual(state(store, file), before)
        store, file = file_with(LEAST, (50, []))
        self.assertEqual(state(store, file), (0, 0, 0, {}))

    def test_list_is_neither_changed_nor_kept(self):
        octets = list(range(100))
        store, file = file_with(LEAST, (3, octets))
        self.assertEqual(octets, list(range(100)))
        octets[10] = 255
        octets.clear()
        self.assertEqual(whole(store, file), [0] * 3 + list(range(100)))

    def test_file_that_would_be_too_long(self):
        for at, count in ((1048576, 1), (1048575, 2), (1048577, 0), (0, 1048577), (1048577, 1), (5000000, 0)):
            store, file = file_with(LEAST, (0, [1] * 100))
            before = state(store, file)
            with self.assertRaises(FileTooLarge):
                write_file(store, file, at=at, octets=[2] * count)
            self.assertEqual(state(store, file), before)

    def test_last_octet_of_the_greatest_file(self):
        for layout in LAYOUTS:
            store, file = file_with(layout, (1048575, [7]))
            self.assertEqual(file.size, 1048576)
            self.assertEqual(block_numbers(store, file), [1048575 // layout.block_size])
            self.assertEqual(read_file(store, file, at=1048574, count=9), [0, 7])
            self.assertEqual(next_data(store, file, 0), 1048576 - layout.block_size)
            self.assertEqual(next_hole(store, file, 1048575), 1048576)

    def test_greatest_file_without_holes(self):
        octets = [(n * n + n // 256) % 256 for n in range(1048576)]
        store, file = file_with(GREATEST, (0, octets))
        self.assertEqual(file.size, 1048576)
        self.assertEqual(block_numbers(store, file), list(range(4096)))
        self.assertEqual(store.block_count, 4096 + 32 + 1)
        self.assertEqual(blocks_by_numbers(GREATEST, list(range(4096))), 4129)
        self.assertEqual(whole(store, file), octets)
        self.assertEqual(next_hole(store, file, 0), 1048576)
        with self.assertRaises(FileTooLarge):
            write_file(store, file, at=1048576, octets=[1])
        truncate_file(store, file, 0)
        self.assertEqual(state(store, file), (0, 0, 0, {}))


class TruncateTest(unittest.TestCase):
    def test_blocks_behind_the_size_go(self):
        for size, numbers in ((300, [0, 1, 2, 3, 4]), (257, [0, 1, 2, 3, 4]), (256, [0, 1, 2, 3]),
                              (255, [0, 1, 2, 3]), (193, [0, 1, 2, 3]), (65, [0, 1]), (64, [0]), (1, [0]), (0, [])):
            store, file = file_with(LEAST, (0, [1] * 300))
            self.assertIsNone(truncate_file(store, file, size))
            self.assertEqual((file.size, block_numbers(store, file)), (size, numbers))
            self.assertEqual(whole(store, file), [1] * size)

    def test_octets_behind_the_size_become_0(self):
        store, file = file_with(LEAST, (0, [1] * 128))
        truncate_file(store, file, 70)
        self.assertEqual(store.get(block_id(store, file, 1)), (DATA, (1,) * 6 + (0,) * 58))
        truncate_file(store, file, 128)
        self.assertEqual(whole(store, file), [1] * 70 + [0] * 58)

    def test_edge_of_a_block(self):
        store, file = file_with(LEAST, (0, [1] * 128))
        before = store.get(block_id(store, file, 0))
        truncate_file(store, file, 64)
        self.assertEqual(store.get(block_id(store, file, 0)), before)
        self.assertEqual(block_numbers(store, file), [0])

    def test_missing_block_at_the_size_stays_missing(self):
        store, file = file_with(LEAST, (0, [1]), (200, [1]))
        truncate_file(store, file, 100)
        self.assertEqual((file.size, block_numbers(store, file)), (100, [0]))

    def test_greater_or_equal_size_changes_the_size_alone(self):
        for size in (100, 101, 128, 129, 1048576):
            store, file = file_with(LEAST, (0, [1] * 100))
            before = state(store, file)
            truncate_file(store, file, size)
            self.assertEqual(state(store, file), (size,) + before[1:])

    def test_file_without_blocks(self):
        store, file = file_with(LEAST, size=1048576)
        self.assertEqual(state(store, file), (1048576, 0, 0, {}))
        truncate_file(store, file, 70)
        self.assertEqual(state(store, file), (70, 0, 0, {}))


class PunchTest(unittest.TestCase):
    def punched(self, start, end, size=300):
        store, file = file_with(LEAST, (0, [1] * size))
        self.assertIsNone(punch_file(store, file, start=start, end=end))
        hole = range(start, min(end, size))
        self.assertEqual(file.size, size)
        self.assertEqual(whole(store, file), [0 if at in hole else 1 for at in range(size)])
        return block_numbers(store, file)

    def test_whole_blocks_go(self):
        self.assertEqual(self.punched(64, 128), [0, 2, 3, 4])
        self.assertEqual(self.punched(64, 192), [0, 3, 4])
        self.assertEqual(self.punched(0, 64), [1, 2, 3, 4])
        self.assertEqual(self.punched(63, 129), [0, 2, 3, 4])

    def test_blocks_that_are_punched_partly_stay(self):
        self.assertEqual(self.punched(65, 128), [0, 1, 2, 3, 4])
        self.assertEqual(self.punched(64, 127), [0, 1, 2, 3, 4])
        self.assertEqual(self.punched(10, 20), [0, 1, 2, 3, 4])
        self.assertEqual(self.punched(60, 70), [0, 1, 2, 3, 4])
        self.assertEqual(self.punched(1, 192), [0, 3, 4])
        self.assertEqual(self.punched(1, 193), [0, 3, 4])

    def test_last_block_goes_if_the_end_is_not_less_than_the_size(self):
        self.assertEqual(self.punched(256, 299), [0, 1, 2, 3, 4])
        self.assertEqual(self.punched(256, 300), [0, 1, 2, 3])
        self.assertEqual(self.punched(256, 301), [0, 1, 2, 3])
        self.assertEqual(self.punched(256, 320), [0, 1, 2, 3])
        self.assertEqual(self.punched(256, 5000000), [0, 1, 2, 3])
        self.assertEqual(self.punched(257, 300), [0, 1, 2, 3, 4])
        self.assertEqual(self.punched(192, 256), [0, 1, 2, 4])
        self.assertEqual(self.punched(0, 300), [])
        self.assertEqual(self.punched(0, 299), [4])

    def test_size_at_the_edge_of_a_block(self):
        self.assertEqual(self.punched(64, 128, size=128), [0])
        self.assertEqual(self.punched(64, 127, size=128), [0, 1])
        self.assertEqual(self.punched(64, 129, size=128), [0])

    def test_empty_ranges_and_ranges_behind_the_size_change_nothing(self):
        for start, end in ((0, 0), (64, 64), (100, 99), (300, 301), (301, 400), (300, 5000000), (299, 299)):
            store, file = file_with(LEAST, (0, [1] * 300))
            before = state(store, file)
            punch_file(store, file, start=start, end=end)
            self.assertEqual(state(store, file), before)

    def test_holes_stay_holes(self):
        store, file = file_with(LEAST, (128, [1] * 64), (320, [1]))
        punch_file(store, file, start=70, end=250)
        self.assertEqual(block_numbers(store, file), [5])
        punch_file(store, file, start=10, end=20)
        self.assertEqual(block_numbers(store, file), [5])

    def test_file_without_blocks(self):
        store, file = file_with(LEAST, size=1000)
        punch_file(store, file, start=3, end=900)
        self.assertEqual(state(store, file), (1000, 0, 0, {}))


class NextTest(unittest.TestCase):
    def test_next_data(self):
        store, file = file_with(LEAST, (64, [1] * 64), (256, [1]), size=400)
        for at, found in ((0, 64), (63, 64), (64, 64), (65, 65), (127, 127), (128, 256), (255, 256), (256, 256),
                          (300, 300), (319, 319), (320, None), (399, None), (400, None), (401, None), (5000000, None)):
            self.assertEqual(next_data(store, file, at), found, at)

    def test_next_hole(self):
        store, file = file_with(LEAST, (64, [1] * 64), (256, [1]), size=400)
        for at, found in ((0, 0), (63, 63), (64, 128), (127, 128), (128, 128), (200, 200), (255, 255), (256, 320),
                          (319, 320), (320, 320), (399, 399), (400, None), (401, None), (5000000, None)):
            self.assertEqual(next_hole(store, file, at), found, at)

    def test_end_of_the_last_block(self):
        store, file = file_with(LEAST, (0, [1] * 130))
        self.assertEqual(next_hole(store, file, 0), 130)
        self.assertEqual(next_hole(store, file, 129), 130)
        self.assertIsNone(next_hole(store, file, 130))
        self.assertEqual(next_data(store, file, 129), 129)
        self.assertIsNone(next_data(store, file, 130))
        store, file = file_with(LEAST, (0, [1] * 128))
        self.assertEqual(next_hole(store, file, 127), 128)
        self.assertIsNone(next_hole(store, file, 128))

    def test_empty_file_and_file_without_blocks(self):
        store, file = file_with(LEAST)
        self.assertEqual((next_data(store, file, 0), next_hole(store, file, 0)), (None, None))
        truncate_file(store, file, 1)
        self.assertEqual((next_data(store, file, 0), next_hole(store, file, 0)), (None, 0))


class BlocksTest(unittest.TestCase):
    def test_numbers_and_ids(self):
        store, file = file_with(LEAST, (64 * 40, [1]), (0, [2]), (64 * 3, [3]))
        self.assertEqual(block_numbers(store, file), [0, 3, 40])
        self.assertEqual(file_ids(store, file), [ident for ident, _, _ in walk_tree(store, file)])
        self.assertEqual(sorted(file_ids(store, file)), [1, 2, 3, 4, 5, 6])
        self.assertEqual(file_ids(store, file), [3, 5, 4, 6, 2, 1])
        block_numbers(store, file).clear()
        file_ids(store, file).clear()
        self.assertEqual((block_numbers(store, file), len(file_ids(store, file))), ([0, 3, 40], 6))

    def test_empty_file(self):
        store, file = file_with(LEAST, size=100)
        self.assertEqual((block_numbers(store, file), file_ids(store, file)), ([], []))

    def test_release_takes_the_blocks_of_this_file_alone(self):
        store, file = file_with(LEAST, (0, [1] * 3000))
        other = PlainFile()
        write_file(store, other, at=0, octets=[2] * 100)
        self.assertIsNone(release_file(store, file))
        self.assertEqual((file.size, file.height, file.root), (0, 0, 0))
        self.assertEqual(sorted(store.blocks), sorted(file_ids(store, other)))
        self.assertEqual(whole(store, other), [2] * 100)

    def test_release_of_a_file_without_blocks(self):
        store, file = file_with(LEAST, size=77)
        release_file(store, file)
        self.assertEqual(state(store, file), (0, 0, 0, {}))

    def test_blocks_by_numbers(self):
        for numbers, count in (([], 0), ([0], 1), ([1], 2), ([0, 1], 3), ([31], 2), ([32], 3), ([0, 32], 5),
                               ([31, 32], 5), ([1023], 3), ([1024], 4), ([32767], 4), ([32768], 5), ([1048575], 5),
                               ([0, 1048575], 9), (list(range(32)), 33), (list(range(33)), 36),
                               ([64, 65, 32, 33], 7)):
            self.assertEqual(blocks_by_numbers(LEAST, numbers), count, numbers)
        for numbers, count in (([127], 2), ([128], 3), ([16383], 3), ([16384], 4), ([1048575], 4), ([1048575, 0], 7)):
            self.assertEqual(blocks_by_numbers(GREATEST, numbers), count, numbers)

    def test_numbers_in_any_order_and_unchanged(self):
        numbers = [40, 3, 1000, 0, 33]
        self.assertEqual(blocks_by_numbers(LEAST, numbers), blocks_by_numbers(LEAST, sorted(numbers)))
        self.assertEqual(numbers, [40, 3, 1000, 0, 33])

    def test_number_of_blocks_follows_from_the_numbers(self):
        chance = random.Random(5)
        for layout in LAYOUTS:
            for _ in range(30):
                store, file = file_with(layout)
                bound = chance.choice((3, 50, 2000, 40000, 1048576 // layout.block_size))
                for _ in range(chance.randrange(1, 12)):
                    number = chance.randrange(min(bound, 1048576 // layout.block_size))
                    write_file(store, file, at=number * layout.block_size, octets=[1])
                self.assertEqual(blocks_by_numbers(layout, block_numbers(store, file)), store.block_count)


class RandomTest(unittest.TestCase):
    def test_several_files_in_one_store(self):
        for seed in range(24):
            self.check_files(random.Random(seed), LAYOUTS[seed % 3])

    def check_files(self, chance, layout):
        store = Store(layout, {})
        used = set()
        pairs = [(PlainFile(), FileModel(layout, used)) for _ in range(3)]
        for _ in range(60):
            file, model = chance.choice(pairs)
            self.change(chance, store, file, model)
            blocks = {}
            for file, model in pairs:
                self.compare(chance, store, file, model)
                blocks.update(model.tree.blocks())
            self.assertEqual(store.blocks, blocks)

    def offset(self, chance, model):
        """Return an offset at, beside or behind the size or the edge of a block, or any other one."""
        size = model.block_size
        edge = size * chance.choice((0, 1, 2, 3, 5, 31, 32, 33, 63, 64, 65, 129, 1048576 // size - 1))
        near = chance.choice((edge, model.size, chance.randrange(5 * size), chance.randrange(100 * size)))
        return max(0, near + chance.choice((-1, 0, 0, 1, chance.randrange(-size, size))))

    def change(self, chance, store, file, model):
        draw = chance.random()
        at = self.offset(chance, model)
        if draw < 0.6:
            count = chance.choice((0, 1, 2, model.block_size, chance.randrange(4 * model.block_size)))
            octets = [chance.choice((0, chance.randrange(256))) for _ in range(count)]
            if at + count > 1048576:
                self.assertRaises(FileTooLarge, write_file, store, file, at=at, octets=octets)
            else:
                write_file(store, file, at=at, octets=octets)
                model.write(at, octets)
        elif draw < 0.75:
            truncate_file(store, file, min(at, 1048576))
            model.truncate(min(at, 1048576))
        else:
            end = chance.choice((self.offset(chance, model), at + chance.randrange(3 * model.block_size)))
            punch_file(store, file, start=at, end=end)
            model.punch(at, end)

    def compare(self, chance, store, file, model):
        self.assertEqual((file.size, file.height, file.root), (model.size, model.tree.height, model.tree.root()))
        self.assertEqual(block_numbers(store, file), sorted(model.tree.data))
        self.assertEqual(file_ids(store, file), [ident for ident, _, _ in model.tree.walk()])
        for _ in range(4):
            at = self.offset(chance, model)
            count = chance.choice((0, 1, chance.randrange(3 * model.block_size)))
            self.assertEqual(read_file(store, file, at=at, count=count), model.read(at, count))
            self.assertEqual(next_data(store, file, at), model.next_data(at))
            self.assertEqual(next_hole(store, file, at), model.next_hole(at))


if __name__ == "__main__":
    unittest.main()
