"""Points 48 to 51: tables."""

import random
import unittest

from helpers import LAYOUTS, LEAST, run_example
from segmentfs.log.tables import commit_to_table, empty_table, move_in_table, slots_after

EXAMPLE = """
>>> from segmentfs.log.tables import move_in_table
>>> move_in_table([0, 20, 21, 0], 21, [20, 21])
[0, 21, 22, 0]
"""


class EmptyTableTest(unittest.TestCase):
    def test_items(self):
        for layout in LAYOUTS:
            self.assertEqual(empty_table(layout), [0] * (layout.last_id + 1))

    def test_tables_are_new(self):
        empty_table(LEAST)[1] = 5
        self.assertEqual(empty_table(LEAST), [0] * 46)


class CommitTest(unittest.TestCase):
    def test_ids_get_addresses_one_after_another(self):
        self.assertEqual(commit_to_table([0] * 6, 30, [4, 1, 5], [1, 4, 5]), [0, 31, 0, 0, 30, 32])

    def test_ids_in_use_keep_their_addresses(self):
        self.assertEqual(commit_to_table([0, 20, 21, 22, 23], 30, [2], [1, 2, 3, 4]), [0, 20, 30, 22, 23])

    def test_ids_that_are_not_in_use_get_the_address_0(self):
        self.assertEqual(commit_to_table([0, 20, 21, 22, 23], 30, [2], [2, 4]), [0, 0, 30, 0, 23])
        self.assertEqual(commit_to_table([0, 20, 21, 22, 23], 30, [2, 3], [3]), [0, 0, 0, 31, 0])
        self.assertEqual(commit_to_table([0, 20, 21, 22, 23], 30, [2], []), [0] * 5)

    def test_ids_in_use_without_a_block(self):
        self.assertEqual(commit_to_table([0] * 5, 30, [2], [1, 2, 4]), [0, 0, 30, 0, 0])

    def test_no_ids(self):
        self.assertEqual(commit_to_table([0, 20, 21], 30, [], [1, 2]), [0, 20, 21])
        self.assertEqual(commit_to_table([0, 20, 21], 30, [], [2]), [0, 0, 21])

    def test_last_one_of_an_id_that_is_listed_twice_counts(self):
        self.assertEqual(commit_to_table([0] * 4, 30, [3, 1, 3], [1, 3]), [0, 31, 0, 32])
        self.assertEqual(commit_to_table([0] * 4, 30, [2, 2, 2, 1], [1, 2]), [0, 33, 32, 0])

    def test_ids_0_and_beyond_the_last_one_are_skipped(self):
        self.assertEqual(commit_to_table([0] * 4, 30, [0, 4, 1, 65535, 3], [1, 3]), [0, 32, 0, 34])
        table = commit_to_table(empty_table(LEAST), 30, [0, 45, 46], [45])
        self.assertEqual(table, [0] * 45 + [31])

    def test_id_0_gets_no_address(self):
        self.assertEqual(commit_to_table([0, 20], 30, [0], [1]), [0, 20])

    def test_tuples_are_lists_too(self):
        self.assertEqual(commit_to_table([0] * 4, 30, (3, 1), (1, 3)), [0, 31, 0, 30])

    def test_table_is_new(self):
        table = [0, 20, 21]
        ids = [1]
        used = [1, 2]
        changed = commit_to_table(table, 30, ids, used)
        changed[2] = 99
        commit_to_table(table, 30, [], [1, 2])[1] = 77
        self.assertEqual((table, ids, used), ([0, 20, 21], [1], [1, 2]))


class ActionTest(unittest.TestCase):
    def test_all_actions(self):
        slots = [[0, 1], None, [0, 3]]
        table = [0, 9]
        for action, expected in (
                (0, [[0, 1], None, [0, 3]]), (1, [[0, 9], None, [0, 3]]), (2, [[0, 1], [0, 9], [0, 3]]),
                (3, [[0, 1], None, [0, 9]]), (4, [None, None, [0, 3]]), (5, [[0, 1], None, [0, 3]]),
                (6, [[0, 1], None, None])):
            self.assertEqual(slots_after(slots, table, action), expected)
            self.assertEqual((slots, table), ([[0, 1], None, [0, 3]], [0, 9]))

    def test_slots_and_their_tables_are_new(self):
        for action in range(7):
            slots = [[0, 1], [0, 2], [0, 3]]
            table = [0, 9]
            changed = slots_after(slots, table, action)
            for slot in changed:
                if slot is not None:
                    slot[1] = 77
            changed.clear()
            self.assertEqual((slots, table), ([[0, 1], [0, 2], [0, 3]], [0, 9]))


class MoveTest(unittest.TestCase):
    def test_example(self):
        run_example(self, EXAMPLE)

    def test_addresses_are_replaced(self):
        self.assertEqual(move_in_table([0, 20, 21, 22, 0], 40, [22, 20]), [0, 41, 21, 40, 0])

    def test_all_replacements_happen_at_once(self):
        self.assertEqual(move_in_table([0, 20, 21, 22], 20, [22, 21, 20]), [0, 22, 21, 20])
        self.assertEqual(move_in_table([0, 30], 31, [30, 31, 32, 33]), [0, 31])

    def test_first_one_of_an_address_that_is_listed_twice_counts(self):
        self.assertEqual(move_in_table([0, 20, 21], 40, [21, 20, 21, 20]), [0, 41, 40])

    def test_address_0_is_never_replaced(self):
        self.assertEqual(move_in_table([0, 0, 20, 0], 40, [0, 20, 0]), [0, 0, 41, 0])

    def test_addresses_that_are_not_in_the_table(self):
        self.assertEqual(move_in_table([0, 20], 40, [50, 51]), [0, 20])
        self.assertEqual(move_in_table([0, 20], 40, []), [0, 20])

    def test_address_of_two_ids(self):
        self.assertEqual(move_in_table([0, 20, 20], 40, [20]), [0, 40, 40])

    def test_table_is_new(self):
        table = [0, 20, 21]
        addresses = [20]
        move_in_table(table, 40, addresses)[2] = 9
        move_in_table(table, 40, [])[2] = 9
        self.assertEqual((table, addresses), ([0, 20, 21], [20]))

    def test_tuples_are_lists_too(self):
        self.assertEqual(move_in_table([0, 20, 21], 40, (21, 20)), [0, 41, 40])

    def test_random_moves(self):
        chance = random.Random(3)
        for _ in range(200):
            table = [0] + [chance.choice((0, chance.randrange(12, 30))) for _ in range(12)]
            addresses = [chance.choice((0, chance.randrange(12, 34))) for _ in range(chance.randrange(8))]
            expected = []
            for address in table:
                replaced = address != 0 and address in addresses
                expected.append(20 + addresses.index(address) if replaced else address)
            self.assertEqual(move_in_table(table, 20, addresses), expected)


if __name__ == "__main__":
    unittest.main()
