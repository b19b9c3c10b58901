"""Point 3: numbers in several octets."""

import unittest

from helpers import run_example
from segmentfs.image.octets import number_octets, number_of

EXAMPLE = """
>>> from segmentfs.image.octets import number_octets
>>> number_octets(513, 3)
[1, 2, 0]
"""


class OctetsTest(unittest.TestCase):
    def test_example(self):
        run_example(self, EXAMPLE)

    def test_lowest_octet_comes_first(self):
        self.assertEqual(number_octets(0x010203, 3), [3, 2, 1])
        self.assertEqual(number_of([3, 2, 1]), 0x010203)

    def test_only_the_lowest_octets_are_returned(self):
        self.assertEqual(number_octets(0x010203, 2), [3, 2])
        self.assertEqual(number_octets(0x010203, 1), [3])
        self.assertEqual(number_octets(0x010203, 0), [])
        self.assertEqual(number_octets(256, 1), [0])

    def test_high_octets_are_zeros(self):
        self.assertEqual(number_octets(0, 4), [0, 0, 0, 0])
        self.assertEqual(number_octets(255, 6), [255, 0, 0, 0, 0, 0])

    def test_number_of_no_octets_is_0(self):
        self.assertEqual(number_of([]), 0)

    def test_numbers_of_octets(self):
        for octets, number in (([0], 0), ([255], 255), ([0, 1], 256), ([255, 255], 65535), ([0, 0, 0], 0),
                               ([255] * 6, 2 ** 48 - 1), ([0, 0, 0, 0, 0, 1], 2 ** 40), ([1, 2, 0], 513)):
            self.assertEqual(number_of(octets), number)

    def test_numbers_are_read_back(self):
        for number in (0, 1, 255, 256, 257, 65535, 65536, 2 ** 24, 2 ** 40 - 1, 2 ** 40, 2 ** 48 - 1):
            self.assertEqual(number_of(number_octets(number, 6)), number)
            self.assertEqual(number_of(number_octets(number, 2)), number % 65536)

    def test_list_is_not_changed(self):
        octets = [1, 2, 3]
        number_of(octets)
        self.assertEqual(octets, [1, 2, 3])


if __name__ == "__main__":
    unittest.main()
