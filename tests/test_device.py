"""Points 18 and 21 to 25: the device."""

import itertools
import random
import unittest

from helpers import GREATEST, LAYOUTS, LEAST, MIDDLE, part, run_example, shown
from segmentfs.device.device import Device

EXAMPLE = """
>>> from segmentfs.geometry.layout import Layout
>>> from segmentfs.device.device import Device
>>> device = Device(Layout(4, 16, 64))
>>> body = (0,) * 32
>>> device.write(20, (5, 1, 0, body))
>>> device.barrier()
>>> device.write(21, (5, 2, 0, body))
>>> device.cut_after(1)
>>> device.write(21, (5, 3, 0, body))
>>> device.barrier()
>>> device.read(21)[1]
3
>>> device.pending()
2
>>> device.left([0]).read(21)[1]
2
>>> device.left([0], torn=[1]).read(21) is None
True
>>> device.left([]).read(20)[1]
1
"""


def block(number):
    return part(LEAST, number)


class Expected:
    """The device of the points 21 to 25, told by the list of all that was called on it."""

    def __init__(self, first):
        self.first = list(first)
        self.calls = []

    def at_the_power_cut(self):
        """Return the commands that took place, and whether the power was cut."""
        done = []
        count = None
        for call in self.calls:
            if call[0] == "cut":
                count = call[1]
            elif count == 0:
                return done, True
            else:
                done.append(call)
                count = None if count is None else count - 1
        return done, False

    def sure_and_pending(self):
        sure = list(self.first)
        pending = []
        for call in self.at_the_power_cut()[0]:
            if call[0] == "write":
                pending.append(call[1:])
            else:
                for address, written in pending:
                    sure[address] = written
                pending = []
        return sure, pending

    def shown(self):
        blocks = list(self.first)
        for call in self.calls:
            if call[0] == "write":
                blocks[call[1]] = call[2]
        return blocks

    def left(self, kept, torn):
        sure, pending = self.sure_and_pending()
        for number, (address, written) in enumerate(pending):
            if number in torn:
                sure[address] = None
            elif number in kept:
                sure[address] = written
        return sure


class NewDeviceTest(unittest.TestCase):
    def test_example(self):
        run_example(self, EXAMPLE)

    def test_new_device_is_blank(self):
        for layout in LAYOUTS:
            device = Device(layout)
            self.assertIs(device.layout, layout)
            self.assertEqual(shown(device), [None] * layout.device_blocks)
            self.assertEqual(device.sure_blocks(), [None] * layout.device_blocks)
            self.assertEqual(device.pending(), 0)
            self.assertIs(device.was_cut(), False)
            self.assertEqual(list(device.written_blocks()), [])

    def test_blocks_that_it_is_created_with_are_sure(self):
        blocks = [block(number) for number in range(LEAST.device_blocks)]
        device = Device(LEAST, blocks)
        self.assertEqual(shown(device), blocks)
        self.assertEqual(device.sure_blocks(), blocks)
        self.assertEqual(device.pending(), 0)
        self.assertEqual(device.left([]).sure_blocks(), blocks)

    def test_list_of_blocks_is_copied(self):
        blocks = [None] * LEAST.device_blocks
        device = Device(LEAST, blocks)
        blocks[3] = block(1)
        self.assertIsNone(device.read(3))
        self.assertIsNone(device.left([]).read(3))
        device.write(4, block(2))
        device.barrier()
        self.assertEqual(blocks, [None] * 3 + [block(1)] + [None] * 72)

    def test_addresses_that_are_not_there_read_none(self):
        for layout in LAYOUTS:
            device = Device(layout, [part(layout, 1)] * layout.device_blocks)
            self.assertEqual(device.read(layout.device_blocks - 1), part(layout, 1))
            for behind in (0, 1, 2, 1000, 65535):
                self.assertIsNone(device.read(layout.device_blocks + behind))


class CommandTest(unittest.TestCase):
    def test_write_is_pending_and_read_at_once(self):
        device = Device(LEAST)
        self.assertIsNone(device.write(75, block(1)))
        self.assertEqual(device.read(75), block(1))
        self.assertEqual(device.pending(), 1)
        self.assertEqual(device.sure_blocks(), [None] * 76)

    def test_last_write_is_read(self):
        device = Device(LEAST)
        device.write(0, block(1))
        device.write(0, block(2))
        self.assertEqual(device.read(0), block(2))
        self.assertEqual(device.pending(), 2)
        device.write(0, None)
        self.assertIsNone(device.read(0))
        self.assertEqual(device.pending(), 3)

    def test_barrier_makes_writes_sure(self):
        device = Device(LEAST)
        device.write(0, block(1))
        device.write(75, block(2))
        device.write(0, block(3))
        self.assertIsNone(device.barrier())
        self.assertEqual(device.pending(), 0)
        self.assertEqual(device.sure_blocks(), [block(3)] + [None] * 74 + [block(2)])
        self.assertEqual(device.left([]).read(0), block(3))

    def test_writes_behind_a_barrier_are_numbered_from_0(self):
        device = Device(LEAST)
        device.write(1, block(1))
        device.barrier()
        device.write(2, block(2))
        device.write(3, block(3))
        self.assertEqual(device.pending(), 2)
        left = device.left([0])
        self.assertEqual([left.read(address) for address in (1, 2, 3)], [block(1), block(2), None])

    def test_barrier_without_pending_writes(self):
        device = Device(LEAST)
        device.barrier()
        self.assertEqual((device.pending(), device.was_cut()), (0, False))
        self.assertEqual(device.sure_blocks(), [None] * 76)

    def test_sure_blocks_are_a_new_list(self):
        device = Device(LEAST)
        device.sure_blocks()[5] = block(1)
        self.assertIsNone(device.read(5))
        self.assertIsNone(device.sure_blocks()[5])
        self.assertIsNone(device.left([]).read(5))

    def test_written_blocks_are_those_that_are_read(self):
        device = Device(GREATEST)
        device.write(541, block(1))
        device.write(7, block(2))
        device.barrier()
        device.write(9, block(3))
        device.write(7, block(4))
        device.write(8, block(5))
        device.write(8, None)
        self.assertEqual(list(device.written_blocks()), [(7, block(4)), (9, block(3)), (541, block(1))])
        device.cut_after(0)
        device.write(0, block(6))
        self.assertEqual(next(device.written_blocks()), (0, block(6)))


class PowerCutTest(unittest.TestCase):
    def test_cut_that_is_only_set_does_not_count(self):
        device = Device(LEAST)
        self.assertIsNone(device.cut_after(0))
        self.assertIs(device.was_cut(), False)

    def test_cut_after_0_commands_at_a_write(self):
        device = Device(LEAST)
        device.write(1, block(1))
        device.cut_after(0)
        device.write(2, block(2))
        self.assertIs(device.was_cut(), True)
        self.assertEqual(device.pending(), 1)
        self.assertEqual(device.read(2), block(2))
        self.assertEqual(device.left([0, 1]).sure_blocks(), [None, block(1)] + [None] * 74)

    def test_cut_after_0_commands_at_a_barrier(self):
        device = Device(LEAST)
        device.write(1, block(1))
        device.cut_after(0)
        device.barrier()
        self.assertIs(device.was_cut(), True)
        self.assertEqual(device.pending(), 1)
        self.assertEqual(device.sure_blocks(), [None] * 76)

    def test_barrier_counts_as_a_command_even_if_nothing_is_pending(self):
        device = Device(LEAST)
        device.cut_after(2)
        device.barrier()
        device.barrier()
        self.assertIs(device.was_cut(), False)
        device.barrier()
        self.assertIs(device.was_cut(), True)

    def test_writes_count_as_commands(self):
        device = Device(LEAST)
        device.cut_after(3)
        for number in range(6):
            self.assertIs(device.was_cut(), number > 3)
            device.write(number, block(number + 1))
            self.assertEqual(device.pending(), min(number + 1, 3))
        self.assertEqual(shown(device)[:7], [block(number) for number in range(1, 7)] + [None])

    def test_reading_and_asking_are_no_commands(self):
        device = Device(LEAST)
        device.cut_after(1)
        device.read(0)
        device.pending()
        device.sure_blocks()
        device.left([])
        device.fork()
        list(device.written_blocks())
        device.write(0, block(1))
        self.assertIs(device.was_cut(), False)

    def test_count_is_replaced(self):
        device = Device(LEAST)
        device.cut_after(0)
        device.cut_after(2)
        device.write(0, block(1))
        device.cut_after(1)
        device.write(1, block(2))
        self.assertIs(device.was_cut(), False)
        device.write(2, block(3))
        self.assertIs(device.was_cut(), True)
        self.assertEqual(device.pending(), 2)

    def test_cut_is_not_set_again_behind_a_cut(self):
        device = Device(LEAST)
        device.cut_after(0)
        device.barrier()
        device.cut_after(5)
        device.write(0, block(1))
        device.barrier()
        self.assertIs(device.was_cut(), True)
        self.assertEqual(device.pending(), 0)
        self.assertEqual(device.sure_blocks(), [None] * 76)

    def test_all_stays_as_it_was_at_the_cut(self):
        device = Device(LEAST)
        device.write(0, block(1))
        device.barrier()
        device.write(0, block(2))
        device.cut_after(0)
        device.write(0, block(3))
        device.barrier()
        device.write(1, block(4))
        self.assertEqual((device.read(0), device.read(1)), (block(3), block(4)))
        self.assertEqual(device.pending(), 1)
        self.assertEqual(device.sure_blocks()[:2], [block(1), None])
        self.assertEqual(device.left([0, 1, 2]).sure_blocks()[:2], [block(2), None])
        self.assertEqual(device.left([]).sure_blocks()[:2], [block(1), None])


class LeftTest(unittest.TestCase):
    def device(self):
        device = Device(LEAST, [block(100)] * 76)
        for number, address in enumerate((10, 11, 10, 12)):
            device.write(address, block(number))
        return device

    def read(self, left):
        return [None if left.read(address) is None else left.read(address)[1] for address in (10, 11, 12, 13)]

    def test_nothing_is_kept(self):
        self.assertEqual(self.read(self.device().left([])), [100, 100, 100, 100])

    def test_writes_are_taken_in_the_order_of_their_numbers(self):
        self.assertEqual(self.read(self.device().left([3, 2, 1, 0])), [2, 1, 3, 100])
        self.assertEqual(self.read(self.device().left([0])), [0, 100, 100, 100])
        self.assertEqual(self.read(self.device().left([0], torn=[2])), [None, 100, 100, 100])
        self.assertEqual(self.read(self.device().left([2], torn=[0])), [2, 100, 100, 100])
        self.assertEqual(self.read(self.device().left([], torn=[1, 3])), [100, None, None, 100])

    def test_number_in_both_lists_counts_as_torn(self):
        self.assertEqual(self.read(self.device().left([0, 1, 2, 3], torn=[1, 2])), [None, None, 3, 100])

    def test_number_listed_twice_counts_once(self):
        self.assertEqual(self.read(self.device().left([1, 1, 0, 0])), [0, 1, 100, 100])
        self.assertEqual(self.read(self.device().left([], torn=[1, 0, 1])), [None, None, 100, 100])

    def test_numbers_that_no_write_has_are_ignored(self):
        self.assertEqual(self.read(self.device().left([3, 4, 5, 1000], torn=[4, 70000])), [100, 100, 3, 100])

    def test_tuples_are_lists_too(self):
        self.assertEqual(self.read(self.device().left((1, 2), torn=(3,))), [2, 1, None, 100])

    def test_lists_are_not_changed(self):
        kept = [3, 3, 1, 9]
        torn = [2, 1, 2]
        self.device().left(kept, torn=torn)
        self.assertEqual((kept, torn), ([3, 3, 1, 9], [2, 1, 2]))

    def test_answer_is_a_new_device(self):
        device = self.device()
        device.cut_after(0)
        left = device.left([0, 1, 2, 3])
        self.assertIs(left.layout, LEAST)
        self.assertEqual((left.pending(), left.was_cut()), (0, False))
        left.write(10, block(7))
        left.barrier()
        self.assertIs(left.was_cut(), False)
        self.assertEqual(left.sure_blocks()[10], block(7))
        self.assertEqual((device.read(10), device.pending(), device.was_cut()), (block(2), 4, False))
        self.assertEqual(device.sure_blocks(), [block(100)] * 76)

    def test_answer_behind_a_cut_has_no_cut(self):
        device = self.device()
        device.cut_after(0)
        device.barrier()
        left = device.left([1])
        self.assertIs(left.was_cut(), False)
        left.write(0, block(5))
        left.barrier()
        self.assertEqual((left.was_cut(), left.sure_blocks()[0]), (False, block(5)))

    def test_without_pending_writes_the_sure_blocks_are_left(self):
        device = self.device()
        device.barrier()
        self.assertEqual(device.left([0, 1], torn=[2, 3]).sure_blocks(), device.sure_blocks())

    def test_every_choice(self):
        for count in range(5):
            for choice in itertools.product((0, 1, 2), repeat=count):
                self.check_choice(choice)

    def check_choice(self, choice):
        device = Device(LEAST, [block(100)] * 76)
        expected = Expected([block(100)] * 76)
        for number in range(len(choice)):
            expected.calls.append(("write", number % 3, block(number)))
            device.write(number % 3, block(number))
        kept = [number for number, fate in enumerate(choice) if fate == 1]
        torn = [number for number, fate in enumerate(choice) if fate == 2]
        self.assertEqual(device.left(kept, torn=torn).sure_blocks(), expected.left(kept, torn))


class ForkTest(unittest.TestCase):
    def test_fork_has_blocks_and_pending_writes(self):
        device = Device(LEAST)
        device.write(0, block(1))
        device.barrier()
        device.write(0, block(2))
        twin = device.fork()
        self.assertIs(twin.layout, LEAST)
        self.assertEqual(shown(twin), shown(device))
        self.assertEqual((twin.pending(), twin.was_cut()), (1, False))
        self.assertEqual(twin.sure_blocks(), device.sure_blocks())
        self.assertEqual(twin.left([0]).read(0), block(2))

    def test_later_commands_change_one_alone(self):
        device = Device(LEAST)
        device.write(0, block(1))
        twin = device.fork()
        device.write(1, block(2))
        twin.barrier()
        twin.write(2, block(3))
        twin.write(3, block(4))
        self.assertEqual((device.pending(), twin.pending()), (2, 2))
        self.assertEqual(shown(device)[:4], [block(1), block(2), None, None])
        self.assertEqual(shown(twin)[:4], [block(1), None, block(3), block(4)])
        self.assertEqual(device.sure_blocks(), [None] * 76)
        self.assertEqual(twin.sure_blocks()[:2], [block(1), None])
        device.barrier()
        self.assertEqual(twin.pending(), 2)

    def test_fork_has_the_cut_that_is_set(self):
        device = Device(LEAST)
        device.cut_after(2)
        device.barrier()
        twin = device.fork()
        twin.barrier()
        self.assertIs(twin.was_cut(), False)
        twin.barrier()
        self.assertEqual((twin.was_cut(), device.was_cut()), (True, False))
        device.cut_after(9)
        device.barrier()
        device.barrier()
        self.assertIs(device.was_cut(), False)

    def test_cut_that_is_set_on_one_is_not_set_on_the_other(self):
        device = Device(LEAST)
        twin = device.fork()
        twin.cut_after(0)
        device.barrier()
        self.assertIs(device.was_cut(), False)
        twin.barrier()
        self.assertIs(twin.was_cut(), True)

    def test_fork_behind_a_cut(self):
        device = Device(LEAST)
        device.write(0, block(1))
        device.cut_after(0)
        device.write(0, block(2))
        twin = device.fork()
        self.assertIs(twin.was_cut(), True)
        twin.cut_after(7)
        twin.write(1, block(3))
        twin.barrier()
        self.assertEqual((twin.pending(), twin.sure_blocks()), (1, [None] * 76))
        self.assertEqual((twin.read(0), twin.read(1)), (block(2), block(3)))
        self.assertEqual(twin.left([0, 1]).sure_blocks()[:2], [block(1), None])
        self.assertIsNone(device.read(1))


class ManyCommandsTest(unittest.TestCase):
    def test_random_calls(self):
        for seed in range(60):
            layout = (LEAST, MIDDLE)[seed % 2]
            self.check_calls(random.Random(seed), layout)

    def check_calls(self, chance, layout):
        first = [None if chance.random() < 0.5 else part(layout, 1000 + n) for n in range(layout.device_blocks)]
        device = Device(layout, first)
        expected = Expected(first)
        for number in range(60):
            self.call(chance, device, expected, number)
            if chance.random() < 0.1:
                device = device.fork()
            self.compare(chance, device, expected)

    def call(self, chance, device, expected, number):
        draw = chance.random()
        if draw < 0.8:
            address = chance.choice((0, 1, 2, device.layout.device_blocks - 1))
            written = None if chance.random() < 0.1 else part(device.layout, number)
            expected.calls.append(("write", address, written))
            device.write(address, written)
        elif draw < 0.95:
            expected.calls.append(("barrier",))
            device.barrier()
        else:
            count = chance.randrange(20)
            expected.calls.append(("cut", count))
            device.cut_after(count)

    def compare(self, chance, device, expected):
        sure, pending = expected.sure_and_pending()
        self.assertEqual(shown(device), expected.shown())
        self.assertEqual(device.sure_blocks(), sure)
        self.assertEqual(device.pending(), len(pending))
        self.assertEqual(device.was_cut(), expected.at_the_power_cut()[1])
        kept = [chance.randrange(len(pending) + 2) for _ in range(chance.randrange(4))]
        torn = [chance.randrange(len(pending) + 2) for _ in range(chance.randrange(4))]
        self.assertEqual(device.left(kept, torn=torn).sure_blocks(), expected.left(kept, torn))
        written = [(address, found) for address, found in enumerate(expected.shown()) if found is not None]
        self.assertEqual(list(device.written_blocks()), written)


if __name__ == "__main__":
    unittest.main()
