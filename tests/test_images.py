"""Points 26, 27, 30 and 31: images of devices."""

import unittest

from helpers import GREATEST, LAYOUTS, LEAST, MIDDLE, commit_block, data, move_block, node, part, run_example, shown
from segmentfs.device.block import stamped
from segmentfs.device.device import Device
from segmentfs.errors import InvalidImage, SegmentError
from segmentfs.geometry.layout import Layout
from segmentfs.image.blocks import block_octets
from segmentfs.image.images import damaged_addresses, read_image, write_image

EXAMPLE = """
>>> from segmentfs.image.images import read_image
>>> read_image([83, 71, 70, 83])
raises InvalidImage
"""
HEAD = [83, 71, 70, 83, 1, 4, 16, 64, 0, 0, 0, 0, 0, 0, 0, 0]


def full_device(layout):
    """Return a device with blocks of all kinds, some of them pending."""
    device = Device(layout)
    blocks = [commit_block(9, (5, 1), (1, 5), 2), move_block(10, (30, 31)), stamped(data(layout, 200), 9, 1),
              stamped(node(layout, 7, 0, 9), 9, 2), part(layout, 11, 3, 65535)]
    for address in range(0, layout.device_blocks, 3):
        device.write(address, blocks[address % 5])
        if address == 30:
            device.barrier()
    return device


class WriteImageTest(unittest.TestCase):
    def test_blank_device(self):
        self.assertEqual(write_image(Device(LEAST)), HEAD + [0] * 76 * 80)

    def test_heads(self):
        self.assertEqual(write_image(Device(MIDDLE))[:16], [83, 71, 70, 83, 1, 7, 19, 128] + [0] * 8)
        self.assertEqual(write_image(Device(GREATEST))[:16], [83, 71, 70, 83, 1, 16, 32, 0, 1] + [0] * 7)

    def test_number_of_octets(self):
        for layout in LAYOUTS:
            count = 16 + layout.device_blocks * (16 + layout.block_size)
            self.assertEqual(len(write_image(full_device(layout))), count)

    def test_blocks_come_by_address(self):
        for layout in LAYOUTS:
            device = full_device(layout)
            octets = write_image(device)
            size = 16 + layout.block_size
            for address in range(layout.device_blocks):
                start = 16 + address * size
                self.assertEqual(octets[start:start + size], block_octets(layout, device.read(address)))

    def test_image_is_that_of_what_is_read(self):
        device = Device(LEAST)
        device.write(5, part(LEAST, 1))
        device.barrier()
        device.write(5, part(LEAST, 2))
        device.cut_after(0)
        device.write(6, part(LEAST, 3))
        found = read_image(write_image(device))
        self.assertEqual((found.read(5), found.read(6)), (part(LEAST, 2), part(LEAST, 3)))

    def test_nothing_is_written(self):
        device = full_device(LEAST)
        before = (shown(device), device.pending(), device.sure_blocks())
        write_image(device).clear()
        self.assertEqual((shown(device), device.pending(), device.sure_blocks()), before)


class ReadImageTest(unittest.TestCase):
    def test_example(self):
        run_example(self, EXAMPLE)

    def test_what_was_written_is_read_back(self):
        for layout in LAYOUTS:
            device = full_device(layout)
            device.cut_after(3)
            octets = write_image(device)
            before = list(octets)
            found = read_image(octets)
            self.assertEqual(shown(found), shown(device))
            self.assertEqual(octets, before)
            sizes = (found.layout.segments, found.layout.segment_blocks, found.layout.block_size)
            self.assertEqual(sizes, (layout.segments, layout.segment_blocks, layout.block_size))

    def test_nothing_is_pending_and_no_cut_is_set(self):
        device = full_device(LEAST)
        device.cut_after(0)
        found = read_image(write_image(device))
        self.assertEqual((found.pending(), found.was_cut()), (0, False))
        self.assertEqual(found.sure_blocks(), shown(device))
        found.barrier()
        self.assertIs(found.was_cut(), False)
        device.barrier()
        found = read_image(write_image(device))
        found.write(0, None)
        self.assertEqual((found.pending(), found.was_cut()), (1, False))

    def test_all_layouts(self):
        for sizes in ((4, 21, 64), (10, 16, 64), (16, 29, 128), (4, 16, 256), (13, 32, 128)):
            found = read_image(write_image(Device(Layout(*sizes))))
            layout = found.layout
            self.assertEqual((layout.segments, layout.segment_blocks, layout.block_size), sizes)

    def check_invalid(self, octets):
        before = list(octets)
        for call in (read_image, damaged_addresses):
            with self.assertRaises(InvalidImage) as caught:
                call(octets)
            error = caught.exception
            self.assertEqual((error.part, error.fault, error.number), ("image", "not an image", 0))
            self.assertIsInstance(error, SegmentError)
        self.assertEqual(octets, before)

    def test_lists_that_are_too_short(self):
        octets = write_image(full_device(LEAST))
        for count in (0, 1, 4, 5, 8, 9, 15, 16, 17, 95, 96, len(octets) - 80, len(octets) - 1):
            self.check_invalid(octets[:count])

    def test_lists_that_are_too_long(self):
        octets = write_image(full_device(LEAST))
        for more in ([0], [7], [0] * 80, octets):
            self.check_invalid(octets + more)

    def test_other_heads(self):
        octets = write_image(Device(LEAST))
        for index in range(16):
            for octet in (0, 1, 2, 3, 5, 10, 15, 16, 17, 32, 33, 64, 83, 128, 255):
                if octet != octets[index]:
                    self.check_invalid(octets[:index] + [octet] + octets[index + 1:])

    def test_sizes_that_are_no_layout(self):
        for head in ((11, 16, 64, 0), (4, 22, 64, 0), (3, 16, 64, 0), (17, 16, 0, 1), (16, 16, 64, 0), (4, 16, 0, 0),
                     (0, 0, 0, 0), (4, 16, 65, 0), (4, 16, 64, 1)):
            octets = [83, 71, 70, 83, 1] + list(head) + [0] * 7
            self.check_invalid(octets + [0] * 76 * 80)
            self.check_invalid(octets)

    def test_head_and_length_of_different_layouts(self):
        self.check_invalid(HEAD + [0] * (len(write_image(Device(MIDDLE))) - 16))
        self.check_invalid(write_image(Device(MIDDLE))[:16] + [0] * 76 * 80)


class DamagedTest(unittest.TestCase):
    def test_no_damage(self):
        for layout in LAYOUTS:
            self.assertEqual(damaged_addresses(write_image(full_device(layout))), [])
            self.assertEqual(damaged_addresses(write_image(Device(layout))), [])

    def test_damaged_blocks_are_told_and_read_as_blank_ones(self):
        for layout in LAYOUTS:
            device = full_device(layout)
            octets = write_image(device)
            last = layout.device_blocks - 1
            damaged = [0, 3, 4, 33, last]
            for address in damaged:
                octets[16 + address * (16 + layout.block_size) + 15] = 1
            self.assertEqual(damaged_addresses(octets), damaged)
            expected = [None if address in damaged else block for address, block in enumerate(shown(device))]
            self.assertEqual(shown(read_image(octets)), expected)

    def test_last_octet(self):
        octets = write_image(Device(LEAST))
        octets[-1] = 1
        before = list(octets)
        self.assertEqual(damaged_addresses(octets), [75])
        self.assertIsNone(read_image(octets).read(75))
        self.assertEqual(octets, before)

    def test_change_to_another_block_is_no_damage(self):
        device = Device(LEAST)
        device.write(2, stamped(data(LEAST, 1), 5, 0))
        octets = write_image(device)
        octets[16 + 2 * 80 + 79] = 9
        self.assertEqual(damaged_addresses(octets), [])
        self.assertEqual(read_image(octets).read(2), (3, 5, 0, (1,) * 63 + (9,)))


if __name__ == "__main__":
    unittest.main()
