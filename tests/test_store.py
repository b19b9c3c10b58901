"""Points 66 and 67: the blocks in memory."""

import random
import unittest

from helpers import GREATEST, LEAST, data, node, run_example
from segmentfs.trees.store import Store

EXAMPLE = """
>>> from segmentfs.geometry.layout import Layout
>>> from segmentfs.trees.store import Store
>>> store = Store(Layout(4, 16, 64), {1: (3, (7,) * 64), 3: (3, (0,) * 64)})
>>> store.new_id()
2
"""


class StoreTest(unittest.TestCase):
    def test_example(self):
        run_example(self, EXAMPLE)

    def test_fields(self):
        blocks = {1: data(LEAST, 1), 7: node(LEAST, 1)}
        store = Store(LEAST, blocks)
        self.assertIs(store.layout, LEAST)
        self.assertEqual(store.blocks, blocks)
        self.assertEqual(store.block_count, 2)
        self.assertEqual(Store(GREATEST, {}).block_count, 0)

    def test_dict_is_copied(self):
        blocks = {1: data(LEAST, 1)}
        store = Store(LEAST, blocks)
        blocks[2] = data(LEAST, 2)
        self.assertEqual(store.blocks, {1: data(LEAST, 1)})
        store.put(3, data(LEAST, 3))
        store.remove(1)
        self.assertEqual(blocks, {1: data(LEAST, 1), 2: data(LEAST, 2)})

    def test_get_and_put(self):
        store = Store(LEAST, {})
        self.assertIsNone(store.get(1))
        self.assertIsNone(store.put(65535, data(LEAST, 1)))
        self.assertEqual(store.get(65535), data(LEAST, 1))
        store.put(65535, node(LEAST, 5))
        self.assertEqual(store.blocks, {65535: node(LEAST, 5)})
        self.assertIsNone(store.get(1))

    def test_remove(self):
        store = Store(LEAST, {1: data(LEAST, 1), 2: data(LEAST, 2)})
        self.assertIsNone(store.remove(1))
        self.assertIsNone(store.get(1))
        self.assertEqual((store.blocks, store.block_count), ({2: data(LEAST, 2)}, 1))

    def test_new_id_is_the_least_one_that_is_not_in_use(self):
        store = Store(LEAST, {})
        self.assertEqual((store.new_id(), store.new_id(), store.block_count), (1, 1, 0))
        for ident in (1, 2, 3, 5):
            store.put(ident, data(LEAST, ident))
        self.assertEqual(store.new_id(), 4)
        store.put(4, data(LEAST, 4))
        self.assertEqual(store.new_id(), 6)
        store.remove(2)
        self.assertEqual(store.new_id(), 2)
        store.remove(4)
        self.assertEqual(store.new_id(), 2)
        store.put(2, data(LEAST, 2))
        self.assertEqual(store.new_id(), 4)

    def test_store_has_no_limit(self):
        store = Store(LEAST, {ident: data(LEAST, 0) for ident in range(1, 1001)})
        self.assertEqual((store.new_id(), store.block_count), (1001, 1000))

    def test_forks_do_not_change_each_other(self):
        store = Store(LEAST, {1: data(LEAST, 1), 2: data(LEAST, 2)})
        twin = store.fork()
        self.assertIs(twin.layout, LEAST)
        store.remove(1)
        twin.put(3, data(LEAST, 3))
        self.assertEqual(store.blocks, {2: data(LEAST, 2)})
        self.assertEqual(twin.blocks, {1: data(LEAST, 1), 2: data(LEAST, 2), 3: data(LEAST, 3)})
        self.assertEqual((store.new_id(), twin.new_id()), (1, 4))

    def test_random_calls(self):
        for seed in range(20):
            self.check_calls(random.Random(seed))

    def check_calls(self, chance):
        store = Store(LEAST, {})
        expected = {}
        for number in range(200):
            ident = chance.randrange(1, 30)
            if ident in expected and chance.random() < 0.5:
                del expected[ident]
                store.remove(ident)
            else:
                ident = min(set(range(1, 40)) - set(expected)) if chance.random() < 0.5 else ident
                expected[ident] = data(LEAST, number)
                store.put(ident, data(LEAST, number))
            if chance.random() < 0.1:
                store = store.fork()
            self.assertEqual(store.blocks, expected)
            self.assertEqual(store.new_id(), min(set(range(1, 40)) - set(expected)))
            self.assertEqual(store.block_count, len(expected))


if __name__ == "__main__":
    unittest.main()
