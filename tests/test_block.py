"""Points 18 to 20: blocks."""

import unittest

from helpers import LEAST, commit_block, data, move_block, node, part
from segmentfs.device.block import COMMIT, DATA, MOVE, NODE, PART, is_payload, payload_of, stamped


class BlockTest(unittest.TestCase):
    def test_kinds(self):
        self.assertEqual((COMMIT, MOVE, DATA, NODE, PART), (1, 2, 3, 4, 5))

    def test_payload_blocks_are_those_of_two_kinds(self):
        self.assertIs(is_payload((3, 9, 1, (0,) * 64)), True)
        self.assertIs(is_payload((4, 9, 1, (0,) * 32)), True)
        self.assertIs(is_payload(commit_block(9)), False)
        self.assertIs(is_payload(move_block(9)), False)
        self.assertIs(is_payload(part(LEAST, 9)), False)
        self.assertIs(is_payload(None), False)

    def test_payload_is_kind_and_body(self):
        self.assertEqual(payload_of((3, 9, 1, (5,) * 64)), (3, (5,) * 64))
        self.assertEqual(payload_of((4, 9, 1, (2,) * 32)), (4, (2,) * 32))

    def test_other_blocks_have_no_payload(self):
        for block in (None, commit_block(9, [1], [1], 2), move_block(9, [30]), part(LEAST, 9)):
            self.assertIsNone(payload_of(block))

    def test_payloads_do_not_depend_on_stamps(self):
        self.assertEqual(payload_of((3, 9, 1, (5,) * 64)), payload_of((3, 10, 2, (5,) * 64)))
        self.assertNotEqual(payload_of((3, 9, 1, (5,) * 64)), payload_of((3, 9, 1, (6,) * 64)))
        self.assertNotEqual(payload_of((3, 9, 1, (0,) * 64)), payload_of((4, 9, 1, (0,) * 64)))

    def test_stamped_block(self):
        self.assertEqual(stamped((3, (5,) * 64), 9, 2), (3, 9, 2, (5,) * 64))
        self.assertEqual(stamped(node(LEAST, 7), 0, 0), (4, 0, 0, (7,) + (0,) * 31))

    def test_stamping_is_undone(self):
        for payload in (data(LEAST, 255), node(LEAST, 1, 2, 65535)):
            block = stamped(payload, 2 ** 48 - 1, 65535)
            self.assertEqual(payload_of(block), payload)
            self.assertEqual(block[1:3], (2 ** 48 - 1, 65535))
            self.assertIsInstance(block, tuple)
            self.assertIsInstance(payload_of(block), tuple)


if __name__ == "__main__":
    unittest.main()
