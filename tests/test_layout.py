"""Points 14 to 17: layouts."""

import unittest

from helpers import GREATEST, LAYOUTS, LEAST, run_example
from segmentfs.errors import InvalidFormat, SegmentError
from segmentfs.geometry.layout import Layout, address_at, parts_of, place_of, region_start, segment_of

EXAMPLE = """
>>> from segmentfs.geometry.layout import Layout, address_at
>>> address_at(Layout(4, 16, 64), 1, 2)
30

>>> from segmentfs.geometry.layout import Layout
>>> Layout(16, 16, 64)
raises InvalidFormat
"""

FIELDS = ("segments", "segment_blocks", "block_size", "payload", "limit", "last_id", "fan", "region_blocks",
          "device_blocks")


def rounded_up(number, size):
    whole, rest = divmod(number, size)
    return whole + (1 if rest else 0)


def derived(segments, segment_blocks, block_size):
    """Return the fields as the table of point 14 tells them."""
    payload = segment_blocks - 1
    limit = (segments - 2) * payload
    last_id = limit + payload
    region = rounded_up(2 * (4 * last_id + 6 + segments), block_size)
    return (segments, segment_blocks, block_size, payload, limit, last_id, block_size // 2, region,
            2 * region + segments * segment_blocks)


def is_layout(segments, segment_blocks, block_size):
    """Tell whether the points 14 and 15 accept the sizes."""
    if not (4 <= segments <= 16 and 16 <= segment_blocks <= 32 and block_size in (64, 128, 256)):
        return False
    fields = derived(segments, segment_blocks, block_size)
    return 16 + 2 * fields[3] + rounded_up(fields[5], 8) <= block_size


def fields_of(layout):
    return tuple(getattr(layout, name) for name in FIELDS)


class LayoutTest(unittest.TestCase):
    def test_example(self):
        run_example(self, EXAMPLE)

    def test_least_layout_is_the_one_of_point_17(self):
        self.assertEqual(fields_of(LEAST), (4, 16, 64, 15, 30, 45, 32, 6, 76))

    def test_greatest_layout(self):
        self.assertEqual(fields_of(GREATEST), (16, 32, 256, 31, 434, 465, 128, 15, 542))

    def test_all_sizes_around_the_ranges(self):
        sizes = (0, 1, 32, 63, 64, 65, 96, 127, 128, 129, 192, 255, 256, 257, 512)
        for segments in range(0, 19):
            for segment_blocks in (0, 1, 8, 14, 15) + tuple(range(16, 36)):
                for block_size in sizes:
                    self.check_sizes(segments, segment_blocks, block_size)

    def check_sizes(self, segments, segment_blocks, block_size):
        sizes = (segments, segment_blocks, block_size)
        if is_layout(*sizes):
            self.assertEqual(fields_of(Layout(*sizes)), derived(*sizes))
        else:
            with self.assertRaises(InvalidFormat, msg=str(sizes)):
                Layout(*sizes)

    def test_sizes_that_just_are_a_layout(self):
        for sizes in ((10, 16, 64), (9, 17, 64), (4, 21, 64), (16, 29, 128), (14, 31, 128), (13, 32, 128),
                      (4, 16, 128), (4, 16, 256), (16, 16, 128), (4, 32, 128), (4, 32, 256), (16, 16, 256)):
            self.assertEqual(fields_of(Layout(*sizes))[:3], sizes)

    def test_sizes_that_just_miss_a_layout(self):
        for sizes in ((11, 16, 64), (10, 17, 64), (4, 22, 64), (16, 30, 128), (15, 31, 128), (14, 32, 128),
                      (3, 16, 64), (17, 16, 256), (4, 15, 64), (4, 33, 256), (16, 33, 256), (17, 32, 256),
                      (4, 16, 63), (4, 16, 65), (4, 16, 32), (16, 32, 512), (4, 16, 192)):
            with self.assertRaises(InvalidFormat, msg=str(sizes)) as caught:
                Layout(*sizes)
            self.assertIsInstance(caught.exception, SegmentError)


class AddressTest(unittest.TestCase):
    def test_numbers_of_point_17(self):
        self.assertEqual(address_at(LEAST, 1, 2), 30)
        self.assertEqual((segment_of(LEAST, 30), place_of(LEAST, 30)), (1, 2))

    def test_first_and_last_address_of_the_segments(self):
        self.assertEqual(address_at(LEAST, 0, 0), 12)
        self.assertEqual(address_at(LEAST, 3, 15), 75)
        self.assertEqual((segment_of(LEAST, 12), place_of(LEAST, 12)), (0, 0))
        self.assertEqual((segment_of(LEAST, 75), place_of(LEAST, 75)), (3, 15))
        self.assertEqual((segment_of(LEAST, 27), place_of(LEAST, 27)), (0, 15))
        self.assertEqual((segment_of(LEAST, 28), place_of(LEAST, 28)), (1, 0))

    def test_addresses_of_the_segments_follow_one_another(self):
        for layout in LAYOUTS:
            address = 2 * layout.region_blocks
            for segment in range(layout.segments):
                for place in range(layout.segment_blocks):
                    self.assertEqual(address_at(layout, segment, place), address)
                    self.assertEqual(segment_of(layout, address), segment)
                    self.assertEqual(place_of(layout, address), place)
                    address += 1
            self.assertEqual(address, layout.device_blocks)

    def test_regions_lie_in_no_segment(self):
        for layout in LAYOUTS:
            for address in range(2 * layout.region_blocks):
                self.assertIsNone(segment_of(layout, address))
                self.assertIsNone(place_of(layout, address))

    def test_numbers_behind_the_last_address_lie_in_no_segment(self):
        for layout in LAYOUTS:
            for behind in (0, 1, 15, 16, 31, 32, 1000, 65535):
                self.assertIsNone(segment_of(layout, layout.device_blocks + behind))
                self.assertIsNone(place_of(layout, layout.device_blocks + behind))

    def test_regions_come_first(self):
        for layout in LAYOUTS:
            self.assertEqual(region_start(layout, 0), 0)
            self.assertEqual(region_start(layout, 1), layout.region_blocks)
        self.assertEqual(region_start(LEAST, 1), 6)
        self.assertEqual(region_start(GREATEST, 1), 15)

    def test_parts_are_rounded_up(self):
        for number, size, parts in ((0, 1, 0), (0, 64, 0), (1, 64, 1), (63, 64, 1), (64, 64, 1), (65, 64, 2),
                                    (128, 64, 2), (129, 64, 3), (7, 1, 7), (380, 64, 6), (45, 8, 6)):
            self.assertEqual(parts_of(number, size), parts)
        for number in range(200):
            for size in range(1, 40):
                self.assertEqual(parts_of(number, size), rounded_up(number, size))


if __name__ == "__main__":
    unittest.main()
