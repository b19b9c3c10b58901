"""Plain lists of octets and of other numbers."""

import unittest

from segmentfs.plain.octets import filled, pieces


class PlainOctetsTest(unittest.TestCase):
    def test_filled(self):
        self.assertEqual(filled([], 0), [])
        self.assertEqual(filled([1, 2], 4), [1, 2, 0, 0])
        self.assertEqual(filled((1, 2), 3), [1, 2, 0])
        self.assertEqual(filled([1, 2, 3], 2), [1, 2])

    def test_filled_list_is_new(self):
        numbers = [1, 2]
        filled(numbers, 2).append(3)
        self.assertEqual(numbers, [1, 2])

    def test_pieces(self):
        self.assertEqual(pieces([], 3), [])
        self.assertEqual(pieces([1, 2, 3, 4], 2), [[1, 2], [3, 4]])
        self.assertEqual(pieces([1, 2, 3], 2), [[1, 2], [3]])
        self.assertEqual(pieces([1, 2, 3], 3), [[1, 2, 3]])


if __name__ == "__main__":
    unittest.main()
