"""Points 39 to 41: checkpoints."""

import random
import unittest

from helpers import GREATEST, LAYOUTS, LEAST, data, node, part, table_of
from segmentfs.device.block import stamped
from segmentfs.device.device import Device
from segmentfs.geometry.layout import address_at
from segmentfs.log.checkpoints import checkpoint_numbers, read_numbers, write_checkpoint
from segmentfs.log.logs import Log, append_commit
from segmentfs.log.recovery import checkpoint_in, new_log


def total(layout):
    return layout.region_blocks * layout.fan


def log_with(layout, present, slots, head, place, queue):
    log = Log(Device(layout))
    log.present = present
    log.slots = slots
    log.head = head
    log.place = place
    log.queue = queue
    return log


def some_log():
    slots = [None, table_of(LEAST, {1: 20, 45: 21}), table_of(LEAST, {})]
    return log_with(LEAST, table_of(LEAST, {1: 30, 2: 31, 45: 75}), slots, 3, 9, [2, 1])


class NumbersTest(unittest.TestCase):
    def test_order_of_the_numbers(self):
        present = [30, 31] + [0] * 42 + [75]
        slots = [0] * 46 + [1, 20] + [0] * 43 + [21] + [1] + [0] * 45
        expected = present + slots + [3, 9, 2] + [2, 1, 0, 0] + [0] * 2
        self.assertEqual(checkpoint_numbers(some_log()), expected)
        self.assertEqual(len(expected), 6 * 32)

    def test_numbers_of_an_empty_log(self):
        for layout in LAYOUTS:
            self.assertEqual(checkpoint_numbers(Log(Device(layout))), [0] * total(layout))

    def test_full_queue(self):
        for layout in LAYOUTS:
            queue = list(range(layout.segments))[::-1]
            log = log_with(layout, table_of(layout, {}), [None] * 3, 1, 2, queue)
            numbers = checkpoint_numbers(log)
            start = 4 * layout.last_id + 3
            self.assertEqual(numbers[start:start + 3 + layout.segments], [1, 2, layout.segments] + queue)
            self.assertEqual(len(numbers), total(layout))
            self.assertFalse(any(numbers[:start]) or any(numbers[start + 3 + layout.segments:]))

    def test_queue_is_not_extended(self):
        log = log_with(LEAST, table_of(LEAST, {}), [None] * 3, 0, 0, [])
        self.assertEqual(checkpoint_numbers(log), [0] * 192)
        self.assertEqual(log.queue, [])

    def test_numbers_are_a_new_list(self):
        log = some_log()
        before = checkpoint_numbers(log)
        checkpoint_numbers(log).clear()
        self.assertEqual(checkpoint_numbers(log), before)
        self.assertEqual((log.present, log.queue), (table_of(LEAST, {1: 30, 2: 31, 45: 75}), [2, 1]))


class ReadNumbersTest(unittest.TestCase):
    def test_what_was_written_is_read(self):
        log = some_log()
        numbers = checkpoint_numbers(log)
        before = list(numbers)
        found = read_numbers(LEAST, numbers)
        self.assertEqual(found, (log.present, log.slots, 3, 9, [2, 1]))
        self.assertIsInstance(found, tuple)
        self.assertEqual(numbers, before)

    def test_empty_numbers_hold_a_checkpoint(self):
        for layout in LAYOUTS:
            self.assertEqual(read_numbers(layout, [0] * total(layout)),
                             ([0] * (layout.last_id + 1), [None] * 3, 0, 0, []))

    def test_lists_are_new(self):
        numbers = checkpoint_numbers(some_log())
        before = list(numbers)
        present, slots, _, _, queue = read_numbers(LEAST, numbers)
        present[1] = 9
        slots[1][1] = 9
        queue.clear()
        self.assertEqual(numbers, before)
        self.assertEqual(read_numbers(LEAST, numbers)[0][1], 30)

    def test_greatest_numbers(self):
        for layout in LAYOUTS:
            full = [0] + [65535] * layout.last_id
            log = log_with(layout, full, [full, full, full], 65535, 65535, [65535] * layout.segments)
            found = read_numbers(layout, checkpoint_numbers(log))
            self.assertEqual(found, (full, [full] * 3, 65535, 65535, [65535] * layout.segments))

    def test_number_that_tells_whether_a_slot_is_taken(self):
        numbers = checkpoint_numbers(some_log())
        for index in (45, 45 + 46, 45 + 92):
            for number in (2, 3, 255, 256, 65535):
                self.assertIsNone(read_numbers(LEAST, numbers[:index] + [number] + numbers[index + 1:]))

    def test_slot_that_is_not_taken_has_zeros_only(self):
        numbers = [0] * 192
        for slot in range(3):
            for place in range(1, 46):
                changed = list(numbers)
                changed[45 + 46 * slot + place] = 1
                self.assertIsNone(read_numbers(LEAST, changed))
                changed[45 + 46 * slot] = 1
                self.assertEqual(read_numbers(LEAST, changed)[1][slot][place], 1)

    def test_slot_without_addresses_is_not_none(self):
        numbers = [0] * 192
        numbers[45 + 46] = 1
        self.assertEqual(read_numbers(LEAST, numbers)[1], [None, [0] * 46, None])

    def test_number_of_segments_in_the_queue(self):
        for layout in LAYOUTS:
            numbers = [0] * total(layout)
            index = 4 * layout.last_id + 5
            for count in range(layout.segments + 1):
                numbers[index] = count
                self.assertEqual(read_numbers(layout, numbers)[4], [0] * count)
            for count in (layout.segments + 1, layout.segments + 2, 255, 65535):
                numbers[index] = count
                self.assertIsNone(read_numbers(layout, numbers))

    def test_numbers_behind_the_queue_are_0(self):
        for layout in LAYOUTS:
            start = 4 * layout.last_id + 6
            for count in (0, 1, layout.segments - 1, layout.segments):
                numbers = [0] * total(layout)
                numbers[start - 1] = count
                for index in range(start, total(layout)):
                    changed = numbers[:index] + [1] + numbers[index + 1:]
                    found = read_numbers(layout, changed)
                    if index < start + count:
                        self.assertEqual(found[4].index(1), index - start)
                    else:
                        self.assertIsNone(found)

    def test_random_logs(self):
        chance = random.Random(2)
        for number in range(60):
            layout = LAYOUTS[number % 3]
            tables = [[0] + [chance.randrange(65536) for _ in range(layout.last_id)] for _ in range(4)]
            slots = [chance.choice((None, table)) for table in tables[1:]]
            queue = [chance.randrange(16) for _ in range(chance.randrange(layout.segments + 1))]
            log = log_with(layout, tables[0], slots, chance.randrange(16), chance.randrange(33), queue)
            expected = (tables[0], slots, log.head, log.place, queue)
            self.assertEqual(read_numbers(layout, checkpoint_numbers(log)), expected)


class WriteCheckpointTest(unittest.TestCase):
    def test_parts(self):
        for layout in LAYOUTS:
            log = new_log(Device(layout))
            append_commit(log, [1, 2], [data(layout, 1), data(layout, 2)], [1, 2], 3)
            self.assertIsNone(write_checkpoint(log))
            numbers = checkpoint_numbers(log)
            for rank in range(layout.region_blocks):
                body = tuple(numbers[rank * layout.fan:(rank + 1) * layout.fan])
                self.assertEqual(log.device.read(layout.region_blocks + rank), (5, 3, rank, body))
            self.assertEqual(checkpoint_in(log.device, 1), (3, numbers))
            self.assertEqual((log.region, log.last_sequence), (1, 3))

    def test_regions_take_turns(self):
        log = new_log(Device(LEAST))
        self.assertEqual(log.region, 0)
        for sequence in range(2, 7):
            before = [log.device.read(address) for address in range(12)]
            former = log.region
            write_checkpoint(log)
            self.assertEqual(log.region, 1 - former)
            self.assertEqual(log.device.read(6 * log.region)[1], sequence)
            kept = slice(6 * former, 6 * former + 6)
            self.assertEqual([log.device.read(address) for address in range(12)][kept], before[kept])

    def test_region_that_does_not_hold_the_last_checkpoint_is_written(self):
        for region in (0, 1):
            log = Log(Device(LEAST))
            log.region = region
            write_checkpoint(log)
            self.assertEqual(log.region, 1 - region)
            self.assertIsNone(log.device.read(6 * region))
            self.assertEqual(log.device.read(6 * (1 - region))[1], 1)

    def test_steps(self):
        log = new_log(Device(LEAST))
        append_commit(log, [1], [data(LEAST, 1)], [1], 0)
        for count in range(9):
            twin = log.fork()
            twin.device.cut_after(count)
            write_checkpoint(twin)
            self.check_step(twin.device, count)

    def check_step(self, device, count):
        """Check what is pending and sure if the power is cut after so many commands of a checkpoint."""
        self.assertIs(device.was_cut(), count < 8)
        self.assertEqual(device.pending(), 2 if count == 0 else 0 if count == 8 else count - 1)
        sure = device.sure_blocks()
        self.assertEqual(sure[13] is None, count == 0)
        self.assertEqual(sure[6] is None, count < 8)
        left = device.left(list(range(count)))
        parts = 0 if count == 0 else min(count - 1, 6)
        self.assertEqual([left.read(6 + rank) is not None for rank in range(6)], [rank < parts for rank in range(6)])

    def test_segments_without_live_addresses_become_free(self):
        log = Log(Device(LEAST))
        write_checkpoint(log)
        self.assertEqual(log.queue, [1, 2, 3])
        self.assertEqual(read_numbers(LEAST, checkpoint_in(log.device, 0)[1])[4], [1, 2, 3])

    def test_queue_is_extended_behind_what_is_in_it(self):
        log = Log(Device(GREATEST))
        log.head = 5
        log.queue = [9, 2, 14]
        log.present[7] = address_at(GREATEST, 3, 0)
        log.present[8] = address_at(GREATEST, 3, 31)
        log.slots[2] = table_of(GREATEST, {1: address_at(GREATEST, 4, 31), 2: address_at(GREATEST, 11, 0)})
        write_checkpoint(log)
        self.assertEqual(log.queue, [9, 2, 14, 0, 1, 6, 7, 8, 10, 12, 13, 15])

    def test_segments_in_the_queue_stay_in_their_order(self):
        log = Log(Device(LEAST))
        log.head = 1
        log.queue = [3, 0, 2]
        write_checkpoint(log)
        self.assertEqual(log.queue, [3, 0, 2])

    def test_head_does_not_become_free(self):
        for head in range(4):
            log = Log(Device(LEAST))
            log.head = head
            write_checkpoint(log)
            self.assertEqual(log.queue, [segment for segment in range(4) if segment != head])

    def test_segment_of_a_slot_alone_does_not_become_free(self):
        for slot in range(3):
            log = Log(Device(LEAST))
            log.slots[slot] = table_of(LEAST, {45: address_at(LEAST, 2, 15)})
            write_checkpoint(log)
            self.assertEqual(log.queue, [1, 3])

    def test_batches_do_not_make_segments_free(self):
        log = new_log(Device(LEAST))
        ids = list(range(1, 16))
        for fill in range(3):
            append_commit(log, ids, [data(LEAST, fill)] * 15, ids, 0)
        self.assertEqual(log.queue, [3])
        write_checkpoint(log)
        self.assertEqual(log.queue, [3, 0, 1])

    def test_tables_head_and_place_stay(self):
        log = new_log(Device(LEAST))
        append_commit(log, [1, 9], [data(LEAST, 1), node(LEAST, 1)], [1, 9], 2)
        before = (list(log.present), [slot and list(slot) for slot in log.slots], log.head, log.place)
        write_checkpoint(log)
        self.assertEqual((log.present, log.slots, log.head, log.place), before)
        self.assertEqual(log.device.read(14), stamped(node(LEAST, 1), 2, 2))
        self.assertEqual(log.device.read(11), part(LEAST, 3, 5, 0)[:3] + (tuple(checkpoint_numbers(log)[160:]),))


if __name__ == "__main__":
    unittest.main()
