"""Points 66 to 71 and 78: trees."""

import random
import unittest

from helpers import GREATEST, LAYOUTS, LEAST, MIDDLE, TreeModel
from segmentfs.device.block import DATA, NODE
from segmentfs.trees.files import PlainFile
from segmentfs.trees.radix import block_id, clear_blocks, least_height, set_block, walk_tree
from segmentfs.trees.store import Store

LAST = 1048575


def octets(layout, fill):
    return [fill % 256] * layout.block_size


def edges(layout):
    """Return the block numbers beside the powers of the fan."""
    numbers = [0, 1, 2, LAST - 1, LAST]
    for power in (1, 2, 3):
        for number in (layout.fan ** power - 1, layout.fan ** power, layout.fan ** power + 1):
            if number < LAST:
                numbers.append(number)
    return numbers


class Pair:
    """A tree in a store beside its model."""

    def __init__(self, test, layout, store=None, used=None):
        self.test = test
        self.layout = layout
        self.store = Store(layout, {}) if store is None else store
        self.file = PlainFile(12345)
        self.model = TreeModel(layout, set() if used is None else used)

    def set(self, number, fill):
        self.test.assertIsNone(set_block(self.store, self.file, number, octets(self.layout, fill)))
        self.model.set(number, octets(self.layout, fill))

    def clear(self, start, end):
        self.test.assertIsNone(clear_blocks(self.store, self.file, start, end))
        self.model.clear(start, end)

    def compare(self):
        self.compare_tree()
        self.test.assertEqual(self.store.blocks, self.model.blocks())

    def compare_tree(self):
        self.test.assertEqual((self.file.height, self.file.root), (self.model.height, self.model.root()))
        self.test.assertEqual(self.file.size, 12345)
        self.test.assertEqual(list(walk_tree(self.store, self.file)), self.model.walk())
        for number in edges(self.layout) + list(self.model.data):
            self.test.assertEqual(block_id(self.store, self.file, number), self.model.ids.get((0, number), 0))


class LeastHeightTest(unittest.TestCase):
    def test_beside_the_powers_of_the_fan(self):
        for number, height in ((0, 0), (1, 1), (31, 1), (32, 2), (1023, 2), (1024, 3), (32767, 3), (32768, 4),
                               (1048575, 4)):
            self.assertEqual(least_height(LEAST, number), height)
        for number, height in ((0, 0), (1, 1), (63, 1), (64, 2), (4095, 2), (4096, 3), (262143, 3), (262144, 4),
                               (1048575, 4)):
            self.assertEqual(least_height(MIDDLE, number), height)
        for number, height in ((0, 0), (1, 1), (127, 1), (128, 2), (16383, 2), (16384, 3), (1048575, 3)):
            self.assertEqual(least_height(GREATEST, number), height)


class EmptyTreeTest(unittest.TestCase):
    def test_empty_tree_has_no_blocks(self):
        for layout in LAYOUTS:
            store = Store(layout, {1: (DATA, (5,) * layout.block_size)})
            file = PlainFile()
            self.assertEqual(list(walk_tree(store, file)), [])
            for number in edges(layout):
                self.assertEqual(block_id(store, file, number), 0)

    def test_clearing_an_empty_tree(self):
        for start, end in ((0, 0), (0, 1), (0, 1048576), (5, 4), (1048575, 1048576)):
            store = Store(LEAST, {1: (DATA, (5,) * 64)})
            file = PlainFile()
            clear_blocks(store, file, start, end)
            self.assertEqual((file.height, file.root, store.block_count), (0, 0, 1))


class SetTest(unittest.TestCase):
    def test_first_block_with_the_number_0_is_the_root(self):
        store = Store(LEAST, {})
        file = PlainFile()
        set_block(store, file, 0, [7] * 64)
        self.assertEqual((file.size, file.height, file.root), (0, 0, 1))
        self.assertEqual(store.blocks, {1: (DATA, (7,) * 64)})
        self.assertEqual(list(walk_tree(store, file)), [(1, 0, 0)])

    def test_first_block_gets_the_first_new_id_and_those_above_it_the_next_ones(self):
        store = Store(LEAST, {2: (DATA, (1,) * 64)})
        file = PlainFile()
        set_block(store, file, 1024 + 32 * 2 + 3, [7] * 64)
        self.assertEqual((file.height, file.root), (3, 5))
        self.assertEqual(store.get(1), (DATA, (7,) * 64))
        self.assertEqual(store.get(3), (NODE, (0, 0, 0, 1) + (0,) * 28))
        self.assertEqual(store.get(4), (NODE, (0, 0, 3) + (0,) * 29))
        self.assertEqual(store.get(5), (NODE, (0, 4) + (0,) * 30))
        self.assertEqual(list(walk_tree(store, file)), [(5, 3, 0), (4, 2, 1024), (3, 1, 1088), (1, 0, 1091)])

    def test_index_blocks_are_put_above_a_tree_before_the_data_block_gets_its_id(self):
        store = Store(LEAST, {})
        file = PlainFile()
        set_block(store, file, 0, [7] * 64)
        set_block(store, file, 1024, [8] * 64)
        self.assertEqual((file.height, file.root), (3, 4))
        self.assertEqual(store.get(2), (NODE, (1,) + (0,) * 31))
        self.assertEqual(store.get(3), (NODE, (2,) + (0,) * 31))
        self.assertEqual(store.get(4), (NODE, (3, 7) + (0,) * 30))
        self.assertEqual(store.get(5), (DATA, (8,) * 64))
        self.assertEqual(store.get(6), (NODE, (5,) + (0,) * 31))
        self.assertEqual(store.get(7), (NODE, (6,) + (0,) * 31))

    def test_block_that_is_there_keeps_its_id(self):
        pair = Pair(self, LEAST)
        for number in (0, 40, 41):
            pair.set(number, number)
        before = dict(pair.store.blocks)
        ident = block_id(pair.store, pair.file, 40)
        pair.set(40, 200)
        before[ident] = (DATA, (200,) * 64)
        self.assertEqual(pair.store.blocks, before)
        self.assertEqual(block_id(pair.store, pair.file, 40), ident)

    def test_tree_stays_high_enough_for_a_lesser_number(self):
        pair = Pair(self, LEAST)
        pair.set(LAST, 1)
        pair.set(0, 2)
        pair.compare()
        self.assertEqual((pair.file.height, pair.store.block_count), (4, 9))

    def test_list_and_tuple_of_octets(self):
        given = list(range(64))
        store = Store(LEAST, {})
        file = PlainFile()
        set_block(store, file, 0, given)
        given[0] = 99
        self.assertEqual(store.get(1), (DATA, tuple(range(64))))
        set_block(store, file, 1, tuple(range(64)))
        self.assertEqual(store.get(block_id(store, file, 1)), (DATA, tuple(range(64))))
        self.assertEqual(given, [99] + list(range(1, 64)))

    def test_each_edge_alone(self):
        for layout in LAYOUTS:
            for number in edges(layout):
                pair = Pair(self, layout)
                pair.set(number, 9)
                pair.compare()

    def test_two_edges_in_both_orders(self):
        for layout in LAYOUTS:
            for first in edges(layout):
                for second in edges(layout):
                    pair = Pair(self, layout)
                    pair.set(first, 1)
                    pair.set(second, 2)
                    pair.compare()

    def test_numbers_of_a_full_index_block(self):
        pair = Pair(self, LEAST)
        for number in range(33):
            pair.set(number, number)
        pair.compare()


class ClearTest(unittest.TestCase):
    def pair(self, layout, numbers):
        pair = Pair(self, layout)
        for number in numbers:
            pair.set(number, number)
        return pair

    def test_empty_ranges_change_nothing(self):
        for start, end in ((0, 0), (3, 3), (4, 3), (1048575, 0), (31, 31)):
            pair = self.pair(LEAST, (0, 3, 31, 32))
            before = dict(pair.store.blocks)
            pair.clear(start, end)
            self.assertEqual(pair.store.blocks, before)
            pair.compare()

    def test_ranges_without_blocks_change_nothing(self):
        for start, end in ((1, 3), (4, 31), (33, 1048576), (32, 1048576)):
            pair = self.pair(LEAST, (0, 3, 31))
            before = dict(pair.store.blocks)
            pair.clear(start, end)
            self.assertEqual(pair.store.blocks, before)

    def test_end_is_not_cleared(self):
        pair = self.pair(LEAST, range(10))
        pair.clear(3, 5)
        pair.compare()
        self.assertEqual(block_id(pair.store, pair.file, 3), 0)
        self.assertEqual(block_id(pair.store, pair.file, 4), 0)
        self.assertNotEqual(block_id(pair.store, pair.file, 2), 0)
        self.assertNotEqual(block_id(pair.store, pair.file, 5), 0)

    def test_index_blocks_without_data_blocks_go(self):
        pair = self.pair(LEAST, (0, 32, 33, 64))
        self.assertEqual(pair.store.block_count, 8)
        pair.clear(32, 64)
        pair.compare()
        self.assertEqual(pair.store.block_count, 5)

    def test_height_becomes_less(self):
        pair = self.pair(LEAST, (0, 1, 32, 1024, LAST))
        for start, height in ((1025, 3), (33, 2), (2, 1), (1, 0), (0, 0)):
            pair.clear(start, 1048576)
            pair.compare()
            self.assertEqual(pair.file.height, height)
        self.assertEqual((pair.file.root, pair.store.blocks), (0, {}))

    def test_height_becomes_less_by_several_levels(self):
        pair = self.pair(LEAST, (0, LAST))
        root = block_id(pair.store, pair.file, 0)
        pair.clear(1, 1048576)
        self.assertEqual((pair.file.height, pair.file.root), (0, root))
        self.assertEqual(pair.store.block_count, 1)

    def test_height_stays_if_the_first_part_alone_is_cleared(self):
        pair = self.pair(LEAST, (0, 1024))
        pair.clear(0, 1024)
        pair.compare()
        self.assertEqual((pair.file.height, pair.store.block_count), (3, 4))

    def test_ids_that_are_given_back_are_taken_again(self):
        pair = self.pair(LEAST, (0, 1, 2))
        pair.clear(1, 2)
        pair.set(40, 1)
        pair.compare()

    def test_all_ranges_between_edges(self):
        for layout in LAYOUTS:
            bounds = edges(layout) + [1048576]
            for start in bounds:
                for end in bounds:
                    pair = self.pair(layout, edges(layout))
                    pair.clear(start, end)
                    pair.compare()


class RandomTest(unittest.TestCase):
    def test_several_trees_in_one_store(self):
        for seed in range(30):
            self.check_trees(random.Random(seed), LAYOUTS[seed % 3])

    def check_trees(self, chance, layout):
        store = Store(layout, {})
        used = set()
        pairs = [Pair(self, layout, store, used) for _ in range(3)]
        for number in range(60):
            self.change(chance, chance.choice(pairs), layout, number)
            for pair in pairs:
                pair.compare_tree()
            blocks = {}
            for pair in pairs:
                blocks.update(pair.model.blocks())
            self.assertEqual(store.blocks, blocks)

    def change(self, chance, pair, layout, number):
        bound = chance.choice((4, 40, 40, 200, 2000, 40000, 1048576))
        if chance.random() < 0.7:
            pair.set(chance.choice((chance.randrange(bound), chance.choice(edges(layout)))), number)
        else:
            start = chance.choice((chance.randrange(bound), chance.choice(edges(layout))))
            pair.clear(start, start + chance.randrange(-1, bound))


if __name__ == "__main__":
    unittest.main()
