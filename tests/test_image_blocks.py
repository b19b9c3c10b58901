"""Points 26 to 31: blocks as octets."""

import random
import unittest

from helpers import GREATEST, LAYOUTS, LEAST, commit_block, data, move_block, node, part
from segmentfs.device.block import stamped
from segmentfs.image.blocks import block_octets, is_damaged, read_block

LETTERS = [83, 71, 70, 83]


def greatest_blocks(layout):
    """Return blocks of each kind with the greatest numbers that can be written."""
    stamp = (2 ** 48 - 1, 65535)
    ids = (65535,) * layout.payload
    used = tuple(range(1, layout.last_id + 1))
    return [
        (1,) + stamp + ((ids, used, 6),),
        (2,) + stamp + (ids,),
        (3,) + stamp + ((255,) * layout.block_size,),
        (4,) + stamp + ((65535,) * layout.fan,),
        (5,) + stamp + ((65535,) * layout.fan,),
    ]


def least_blocks(layout):
    """Return blocks of each kind with zeros alone."""
    zeros = (0,) * layout.fan
    return [commit_block(0), move_block(0), (3, 0, 0, zeros + zeros), (4, 0, 0, zeros), (5, 0, 0, zeros)]


def some_blocks(layout):
    """Return blocks of each kind with various numbers."""
    last = layout.last_id
    return [
        commit_block(9, (5, 300, 5), (1, 2, 9, last), 3), commit_block(10, (), (last,), 0),
        commit_block(11, (0,), (), 1), commit_block(11, (0, 0), (), 1), commit_block(11, (), (8,), 4),
        commit_block(11, (), (9,), 4), move_block(12, (513, 2)), move_block(12, (513, 2, 0)), move_block(12),
        stamped(data(layout, 7), 13, 1), stamped(node(layout, 1, 0, 258), 14, 2), part(layout, 15, 3, 258),
    ]


def all_blocks(layout):
    return greatest_blocks(layout) + least_blocks(layout) + some_blocks(layout)


def changed(octets, *changes):
    """Return the octets with some of them replaced, for pairs of an index and an octet."""
    copied = list(octets)
    for index, octet in changes:
        copied[index] = octet
    return copied


class WriteTest(unittest.TestCase):
    def test_blank_block_has_zeros_only(self):
        for layout in LAYOUTS:
            self.assertEqual(block_octets(layout, None), [0] * (16 + layout.block_size))

    def test_spare_area(self):
        octets = block_octets(LEAST, (3, 0x060504030201, 0x0807, (9,) * 64))
        self.assertEqual(octets, [3, 1, 2, 3, 4, 5, 6, 7, 8, 0, 0, 0, 0, 0, 0, 0] + [9] * 64)

    def test_commit(self):
        octets = block_octets(LEAST, (1, 2, 0, ((5, 300), (1, 2, 9, 45), 3)))
        body = LETTERS + [1, 2, 0, 3] + [0] * 8 + [5, 0, 44, 1] + [0] * 26 + [3, 1, 0, 0, 0, 16] + [0] * 12
        self.assertEqual(octets, [1, 2] + [0] * 14 + body)

    def test_move(self):
        octets = block_octets(LEAST, (2, 300, 0, (13, 300, 65535)))
        body = LETTERS + [2, 3, 0] + [0] * 9 + [13, 0, 44, 1, 255, 255] + [0] * 42
        self.assertEqual(octets, [2, 44, 1] + [0] * 13 + body)

    def test_data(self):
        octets = tuple(range(64))
        self.assertEqual(block_octets(LEAST, (3, 1, 1, octets)), [3, 1, 0, 0, 0, 0, 0, 1] + [0] * 8 + list(octets))

    def test_node_and_part(self):
        for kind in (4, 5):
            octets = block_octets(LEAST, (kind, 1, 0, (1, 258) + (0,) * 29 + (65535,)))
            self.assertEqual(octets, [kind, 1] + [0] * 14 + [1, 0, 2, 1] + [0] * 58 + [255, 255])

    def test_bits_of_the_greatest_layout(self):
        octets = block_octets(GREATEST, commit_block(1, (), (1, 8, 9, 16, 464, 465)))
        bits = octets[16 + 16 + 62:]
        self.assertEqual(bits, [129, 129] + [0] * 55 + [128, 1] + [0] * (256 - 78 - 59))

    def test_commit_of_all_ids(self):
        octets = block_octets(LEAST, greatest_blocks(LEAST)[0])
        body = LETTERS + [1, 15, 0, 6] + [0] * 8 + [255] * 30 + [255] * 5 + [31] + [0] * 12
        self.assertEqual(octets, [1] + [255] * 8 + [0] * 7 + body)

    def test_result_is_a_new_list_of_octets(self):
        for layout in LAYOUTS:
            for block in all_blocks(layout) + [None]:
                octets = block_octets(layout, block)
                self.assertIsInstance(octets, list)
                self.assertEqual(len(octets), 16 + layout.block_size)
                self.assertTrue(all(0 <= octet <= 255 for octet in octets))
                octets[0] = 99
                self.assertNotEqual(block_octets(layout, block)[0], 99)


class ReadTest(unittest.TestCase):
    def test_what_was_written_is_read_back(self):
        for layout in LAYOUTS:
            for block in all_blocks(layout):
                octets = block_octets(layout, block)
                before = list(octets)
                self.assertEqual(read_block(layout, octets), block)
                self.assertIs(is_damaged(layout, octets), False)
                self.assertEqual(octets, before)

    def test_blocks_that_are_read_are_made_of_tuples(self):
        for block in some_blocks(LEAST):
            found = read_block(LEAST, block_octets(LEAST, block))
            self.assertIsInstance(found, tuple)
            self.assertIsInstance(found[3], tuple)
            if found[0] == 1:
                self.assertIsInstance(found[3][0], tuple)
                self.assertIsInstance(found[3][1], tuple)

    def test_different_blocks_have_different_octets(self):
        for layout in LAYOUTS:
            written = [tuple(block_octets(layout, block)) for block in all_blocks(layout) + [None]]
            self.assertEqual(len(set(written)), len(written))

    def test_blank_octets_are_not_damaged(self):
        for layout in LAYOUTS:
            octets = [0] * (16 + layout.block_size)
            self.assertIsNone(read_block(layout, octets))
            self.assertIs(is_damaged(layout, octets), False)

    def test_blocks_with_the_stamp_0(self):
        for block in least_blocks(LEAST):
            self.assertEqual(read_block(LEAST, block_octets(LEAST, block)), block)

    def test_random_blocks(self):
        chance = random.Random(1)
        for number in range(300):
            layout = LAYOUTS[number % 3]
            block = self.random_block(chance, layout)
            self.assertEqual(read_block(layout, block_octets(layout, block)), block)

    def random_block(self, chance, layout):
        stamp = (chance.randrange(2 ** 48), chance.randrange(65536))
        listed = tuple(chance.randrange(65536) for _ in range(chance.randrange(layout.payload + 1)))
        used = tuple(sorted(chance.sample(range(1, layout.last_id + 1), chance.randrange(layout.last_id + 1))))
        bodies = {
            1: (listed, used, chance.randrange(7)), 2: listed,
            3: tuple(chance.randrange(256) for _ in range(layout.block_size)),
            4: tuple(chance.randrange(65536) for _ in range(layout.fan)),
            5: tuple(chance.randrange(65536) for _ in range(layout.fan)),
        }
        kind = chance.randrange(1, 6)
        return (kind,) + stamp + (bodies[kind],)


class DamageTest(unittest.TestCase):
    def check_damaged(self, octets, layout=LEAST):
        self.assertIs(is_damaged(layout, octets), True)
        self.assertIsNone(read_block(layout, octets))

    def check_block(self, octets, block, layout=LEAST):
        self.assertIs(is_damaged(layout, octets), False)
        self.assertEqual(read_block(layout, octets), block)

    def test_other_kinds(self):
        for block in all_blocks(LEAST):
            octets = block_octets(LEAST, block)
            for kind in (0, 6, 7, 128, 255):
                if any(changed(octets, (0, kind))):
                    self.check_damaged(changed(octets, (0, kind)))

    def test_kind_of_another_block(self):
        self.check_damaged(changed(block_octets(LEAST, commit_block(9, (5,), (1,), 3)), (0, 2)))
        self.check_damaged(changed(block_octets(LEAST, move_block(9, (5,))), (0, 1)))
        self.check_damaged(changed(block_octets(LEAST, stamped(data(LEAST, 0), 1, 1)), (0, 1)))
        self.check_damaged(changed(block_octets(LEAST, stamped(data(LEAST, 0), 1, 1)), (0, 2)))
        octets = block_octets(LEAST, part(LEAST, 1, 1, 7))
        self.check_block(changed(octets, (0, 4)), stamped(node(LEAST, *[7] * 32), 1, 1))

    def test_zeros_of_the_spare_area(self):
        for layout in LAYOUTS:
            for block in greatest_blocks(layout) + least_blocks(layout):
                octets = block_octets(layout, block)
                for index in range(9, 16):
                    for octet in (1, 128, 255):
                        self.check_damaged(changed(octets, (index, octet)), layout)

    def test_single_octets_in_a_blank_block(self):
        for index in range(80):
            for octet in (1, 2, 3, 4, 5, 255):
                octets = changed([0] * 80, (index, octet))
                if index == 0 and octet in (3, 4, 5):
                    size = 64 if octet == 3 else 32
                    self.check_block(octets, (octet, 0, 0, (0,) * size))
                else:
                    self.check_damaged(octets)

    def test_letters_and_marks_of_summaries(self):
        for block in (commit_block(9, (5,), (1,), 3), move_block(9, (5,))):
            octets = block_octets(LEAST, block)
            for index in range(16, 21):
                for octet in (0, octets[index] + 1, octets[index] ^ 32, 255):
                    self.check_damaged(changed(octets, (index, octet)))
            self.check_damaged(changed(octets, (20, 3 - octets[20])))

    def test_number_of_ids(self):
        octets = block_octets(LEAST, commit_block(9, (5, 6), (1,), 3))
        self.check_damaged(changed(octets, (21, 1)))
        self.check_damaged(changed(octets, (21, 0)))
        self.check_block(changed(octets, (21, 3)), commit_block(9, (5, 6, 0), (1,), 3))
        self.check_block(changed(octets, (21, 15)), commit_block(9, (5, 6) + (0,) * 13, (1,), 3))
        self.check_damaged(changed(octets, (21, 16)))
        self.check_damaged(changed(octets, (21, 255)))
        self.check_damaged(changed(octets, (22, 1)))
        self.check_damaged(changed(octets, (21, 0), (22, 1)))

    def test_more_ids_than_a_batch_has(self):
        for layout in LAYOUTS:
            octets = block_octets(layout, commit_block(9, (5,) * layout.payload))
            for count in (layout.payload + 1, layout.payload + 2, 255):
                self.check_damaged(changed(octets, (21, count)), layout)
            self.check_damaged(changed(octets, (22, 1)), layout)

    def test_number_of_addresses(self):
        octets = block_octets(LEAST, move_block(9, (5, 6)))
        self.check_damaged(changed(octets, (21, 1)))
        self.check_block(changed(octets, (21, 3)), move_block(9, (5, 6, 0)))
        self.check_block(changed(octets, (21, 15)), move_block(9, (5, 6) + (0,) * 13))
        self.check_damaged(changed(octets, (21, 16)))
        self.check_damaged(changed(octets, (22, 1)))
        for layout in LAYOUTS:
            full = block_octets(layout, move_block(9, (5,) * layout.payload))
            self.check_damaged(changed(full, (21, layout.payload + 1)), layout)
            self.check_damaged(changed(full, (21, 0), (22, 1)), layout)

    def test_more_addresses_than_a_batch_has_that_stand_there(self):
        for layout in LAYOUTS:
            octets = block_octets(layout, move_block(9, (5,) * layout.payload))
            if 32 + 2 * layout.payload + 1 < len(octets):
                more = changed(octets, (21, layout.payload + 1), (32 + 2 * layout.payload, 5))
                self.check_damaged(more, layout)

    def test_actions(self):
        octets = block_octets(LEAST, commit_block(9, (5,), (1,), 3))
        for action in range(7):
            self.check_block(changed(octets, (23, action)), commit_block(9, (5,), (1,), action))
        for action in (7, 8, 128, 255):
            self.check_damaged(changed(octets, (23, action)))

    def test_zeros_of_the_head_of_a_summary(self):
        for layout in LAYOUTS:
            commit = block_octets(layout, commit_block(9, (5,), (1,), 3))
            move = block_octets(layout, move_block(9, (5,)))
            for index in range(24, 32):
                self.check_damaged(changed(commit, (index, 1)), layout)
            for index in range(23, 32):
                self.check_damaged(changed(move, (index, 1)), layout)

    def test_zeros_behind_the_ids(self):
        for layout in LAYOUTS:
            commit = block_octets(layout, commit_block(9, (5, 6), (1,), 3))
            for index in range(32 + 4, 32 + 2 * layout.payload):
                self.check_damaged(changed(commit, (index, 1)), layout)

    def test_bits_behind_the_last_id(self):
        for layout in LAYOUTS:
            commit = block_octets(layout, commit_block(9, (5,), (1, layout.last_id), 3))
            last = 32 + 2 * layout.payload + (layout.last_id - 1) // 8
            for bit in range((layout.last_id - 1) % 8 + 1, 8):
                self.check_damaged(changed(commit, (last, commit[last] + 2 ** bit)), layout)
            for index in range(last + 1, 16 + layout.block_size):
                for octet in (1, 128):
                    self.check_damaged(changed(commit, (index, octet)), layout)

    def test_zeros_behind_the_addresses(self):
        for layout in LAYOUTS:
            move = block_octets(layout, move_block(9, (5, 6)))
            for index in range(32 + 4, 16 + layout.block_size):
                for octet in (1, 255):
                    self.check_damaged(changed(move, (index, octet)), layout)

    def test_every_change_of_one_octet_is_another_block_or_damage(self):
        for block in some_blocks(LEAST) + greatest_blocks(LEAST):
            octets = block_octets(LEAST, block)
            for index in range(80):
                for octet in (0, 1, 7, octets[index] ^ 1, octets[index] ^ 128, 255):
                    self.check_change(block, octets, changed(octets, (index, octet)))

    def check_change(self, block, octets, others):
        found = read_block(LEAST, others)
        self.assertEqual(is_damaged(LEAST, others), found is None)
        self.assertEqual(found == block, others == octets)
        if found is not None:
            self.assertEqual(block_octets(LEAST, found), others)


if __name__ == "__main__":
    unittest.main()
