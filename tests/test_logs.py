"""Points 32 to 38: logs and batches."""

import unittest

from helpers import GREATEST, LAYOUTS, LEAST, commit_block, data, move_block, node, part, table_of
from segmentfs.device.block import stamped
from segmentfs.device.device import Device
from segmentfs.geometry.layout import address_at
from segmentfs.log.checkpoints import write_checkpoint
from segmentfs.log.logs import (
    Log, append_commit, append_move, contents_of, live_addresses, payload_at, sync_log)
from segmentfs.log.recovery import new_log


def payloads(layout, count, first=1):
    return [data(layout, first + place) for place in range(count)]


def state(log):
    """Return all that a log knows, and what its device reads and holds."""
    device = log.device
    return (list(log.present), [slot if slot is None else list(slot) for slot in log.slots], log.head, log.place,
            list(log.queue), log.last_sequence, log.region, log.counts.as_row(), list(device.written_blocks()),
            device.pending(), device.sure_blocks())


def fill_head(log, place):
    """Let the place of a new log be this one, by a commit that leaves its tables empty."""
    listed = place - 1
    append_commit(log, list(range(1, listed + 1)), payloads(log.layout, listed), [], 0)


class NewObjectTest(unittest.TestCase):
    def test_log_with_empty_tables(self):
        for layout in LAYOUTS:
            device = Device(layout)
            log = Log(device)
            self.assertIs(log.device, device)
            self.assertIs(log.layout, layout)
            self.assertEqual(log.present, [0] * (layout.last_id + 1))
            self.assertEqual(log.slots, [None, None, None])
            self.assertEqual((log.head, log.place, log.queue, log.last_sequence, log.region), (0, 0, [], 0, 1))
            self.assertEqual(log.counts.as_row(), (0,) * 7)
            self.assertEqual((device.pending(), list(device.written_blocks())), (0, []))

    def test_logs_share_nothing(self):
        first = Log(Device(LEAST))
        second = Log(Device(LEAST))
        first.queue.append(1)
        first.slots[0] = [0] * 46
        first.present[1] = 5
        first.counts.commits = 3
        self.assertEqual((second.queue, second.slots, second.present[1]), ([], [None] * 3, 0))
        self.assertEqual(second.counts.commits, 0)


class LiveTest(unittest.TestCase):
    def log(self):
        log = Log(Device(LEAST, [stamped(data(LEAST, address), 1, 1) for address in range(76)]))
        log.present = table_of(LEAST, {1: 40, 2: 30, 45: 75})
        log.slots = [table_of(LEAST, {1: 30, 7: 33}), None, table_of(LEAST, {1: 12, 9: 40})]
        return log

    def test_live_addresses_are_those_of_all_tables(self):
        self.assertEqual(live_addresses(self.log()), [12, 30, 33, 40, 75])
        self.assertEqual(live_addresses(Log(Device(LEAST))), [])
        log = self.log()
        log.present = table_of(LEAST, {})
        self.assertEqual(live_addresses(log), [12, 30, 33, 40])

    def test_live_addresses_are_a_new_list(self):
        log = self.log()
        live_addresses(log).clear()
        self.assertEqual(live_addresses(log), [12, 30, 33, 40, 75])

    def test_payload_at(self):
        log = Log(Device(LEAST))
        for address, block in ((12, stamped(data(LEAST, 1), 9, 2)), (13, stamped(node(LEAST, 5), 9, 3)),
                               (14, commit_block(9)), (15, move_block(9)), (16, part(LEAST, 9))):
            log.device.write(address, block)
        found = [payload_at(log, address) for address in range(12, 18)]
        self.assertEqual(found, [data(LEAST, 1), node(LEAST, 5), None, None, None, None])
        self.assertIsNone(payload_at(log, 76))
        self.assertIsNone(payload_at(log, 65535))

    def test_contents(self):
        log = self.log()
        self.assertEqual(contents_of(log, log.present), {1: data(LEAST, 40), 2: data(LEAST, 30), 45: data(LEAST, 75)})
        self.assertEqual(list(contents_of(log, log.present)), [1, 2, 45])
        self.assertEqual(contents_of(log, log.slots[0]), {1: data(LEAST, 30), 7: data(LEAST, 33)})
        self.assertEqual(contents_of(log, table_of(LEAST, {})), {})

    def test_ids_without_a_payload_block_are_left_out(self):
        log = self.log()
        log.device.write(40, None)
        log.device.write(30, commit_block(1))
        self.assertEqual(contents_of(log, log.present), {45: data(LEAST, 75)})
        log.device.write(75, part(LEAST, 1))
        self.assertEqual(contents_of(log, log.present), {})
        self.assertEqual(contents_of(log, table_of(LEAST, {1: 76, 2: 65535, 3: 50})), {3: data(LEAST, 50)})

    def test_contents_are_a_new_dict(self):
        log = self.log()
        before = list(log.present)
        contents_of(log, log.present).clear()
        self.assertEqual((len(contents_of(log, log.present)), log.present), (3, before))


class CommitTest(unittest.TestCase):
    def test_blocks_of_a_commit(self):
        log = new_log(Device(LEAST))
        self.assertIs(append_commit(log, [5, 7], [data(LEAST, 1), node(LEAST, 5)], [5, 7, 9], 0), True)
        self.assertEqual(log.device.read(12), (1, 2, 0, ((5, 7), (5, 7, 9), 0)))
        self.assertEqual(log.device.read(13), (3, 2, 1, (1,) * 64))
        self.assertEqual(log.device.read(14), (4, 2, 2, (5,) + (0,) * 31))
        self.assertIsNone(log.device.read(15))
        self.assertEqual((log.head, log.place, log.queue), (0, 3, [1, 2, 3]))
        self.assertEqual((log.last_sequence, log.region), (2, 0))
        self.assertEqual(log.present, table_of(LEAST, {5: 13, 7: 14}))

    def test_summary_is_written_first_then_the_payloads_in_order(self):
        log = new_log(Device(LEAST))
        append_commit(log, [5, 7, 8], payloads(LEAST, 3), [5, 7, 8], 0)
        self.assertEqual(log.device.pending(), 4)
        for count in range(5):
            left = log.device.left(list(range(count)))
            self.assertEqual([left.read(12 + place) is not None for place in range(5)],
                             [place < count for place in range(5)])

    def test_batches_make_no_barrier(self):
        log = new_log(Device(LEAST))
        append_commit(log, [1], payloads(LEAST, 1), [1], 0)
        append_move(log, [13])
        append_commit(log, [], [], [1], 0)
        self.assertEqual(log.device.pending(), 5)

    def test_each_batch_uses_the_next_sequence_number(self):
        log = new_log(Device(LEAST))
        for sequence in (2, 3, 4):
            append_commit(log, [1], payloads(LEAST, 1), [1], 0)
            self.assertEqual(log.last_sequence, sequence)
            self.assertEqual(log.device.read(12 + 2 * (sequence - 2))[1], sequence)
        append_move(log, [17])
        self.assertEqual((log.last_sequence, log.device.read(28)[1], log.device.read(29)[1]), (5, 5, 5))
        write_checkpoint(log)
        self.assertEqual((log.last_sequence, log.device.read(6)[1]), (6, 6))
        append_commit(log, [1], payloads(LEAST, 1), [1], 0)
        self.assertEqual((log.last_sequence, log.device.read(30)[1]), (7, 7))

    def test_next_batch_begins_behind_the_last_one(self):
        log = new_log(Device(LEAST))
        append_commit(log, [1, 2], payloads(LEAST, 2), [1, 2], 0)
        append_commit(log, [2], payloads(LEAST, 1, 8), [1, 2], 0)
        self.assertEqual(log.present, table_of(LEAST, {1: 13, 2: 16}))
        self.assertEqual(contents_of(log, log.present), {1: data(LEAST, 1), 2: data(LEAST, 8)})
        self.assertEqual(log.place, 5)

    def test_commit_without_payload_blocks(self):
        log = new_log(Device(LEAST))
        append_commit(log, [1, 2], payloads(LEAST, 2), [1, 2], 0)
        self.assertIs(append_commit(log, [], [], [2], 0), True)
        self.assertEqual((log.place, log.present), (4, table_of(LEAST, {2: 14})))
        self.assertEqual(log.device.read(15), (1, 3, 0, ((), (2,), 0)))

    def test_commit_that_just_fits_behind_the_place(self):
        for layout in LAYOUTS:
            for count in (1, 2, layout.payload // 2, layout.payload - 1):
                log = new_log(Device(layout))
                fill_head(log, layout.segment_blocks - 1 - count)
                ids = list(range(1, count + 1))
                self.assertIs(append_commit(log, ids, payloads(layout, count), ids, 0), True)
                self.assertEqual((log.head, log.place), (0, layout.segment_blocks))
                self.assertEqual(log.present[count], address_at(layout, 0, layout.segment_blocks - 1))

    def test_commit_that_just_does_not_fit_behind_the_place(self):
        for layout in LAYOUTS:
            for count in (1, 2, layout.payload - 1, layout.payload):
                log = new_log(Device(layout))
                fill_head(log, layout.segment_blocks - count)
                ids = list(range(1, count + 1))
                self.assertIs(append_commit(log, ids, payloads(layout, count), ids, 0), True)
                self.assertEqual((log.head, log.place), (1, 1 + count))
                self.assertEqual(log.queue, list(range(2, layout.segments)))
                self.assertEqual(log.present[count], address_at(layout, 1, count))
                self.assertEqual(log.device.read(address_at(layout, 1, 0))[0], 1)

    def test_commit_without_payload_blocks_at_the_end_of_a_segment(self):
        log = new_log(Device(LEAST))
        fill_head(log, 15)
        append_commit(log, [], [], [], 0)
        self.assertEqual((log.head, log.place), (0, 16))
        append_commit(log, [], [], [], 0)
        self.assertEqual((log.head, log.place, log.queue), (1, 1, [2, 3]))

    def test_commit_of_as_many_blocks_as_a_batch_has(self):
        for layout in LAYOUTS:
            log = new_log(Device(layout))
            ids = list(range(1, layout.payload + 1))
            self.assertIs(append_commit(log, ids, payloads(layout, layout.payload), ids, 0), True)
            self.assertEqual((log.head, log.place), (0, layout.segment_blocks))

    def test_first_segment_of_the_queue_is_taken(self):
        log = new_log(Device(LEAST))
        log.queue = [3, 1]
        log.place = 16
        append_commit(log, [4], payloads(LEAST, 1), [4], 0)
        self.assertEqual((log.head, log.place, log.queue, log.present[4]), (3, 2, [1], 61))

    def test_commit_without_a_place_changes_nothing(self):
        log = new_log(Device(LEAST))
        append_commit(log, [1], payloads(LEAST, 1), [1], 1)
        log.queue = []
        log.place = 10
        before = state(log)
        ids = [1, 2, 3, 4, 5, 6]
        self.assertIs(append_commit(log, ids, payloads(LEAST, 6), ids, 2), False)
        self.assertEqual(state(log), before)
        self.assertIs(append_commit(log, ids[:5], payloads(LEAST, 5), ids[:5], 2), True)
        before = state(log)
        self.assertIs(append_commit(log, [], [], [1], 0), False)
        self.assertEqual(state(log), before)

    def test_commit_that_fits_does_not_need_the_queue(self):
        log = new_log(Device(LEAST))
        log.queue = []
        self.assertIs(append_commit(log, [1], payloads(LEAST, 1), [1], 0), True)

    def test_actions_take_and_drop_slots(self):
        log = new_log(Device(LEAST))
        tables = []
        for action in range(1, 4):
            append_commit(log, [action], payloads(LEAST, 1), [1, 2, 3], action)
            tables.append(list(log.present))
            self.assertEqual(log.slots, (tables + [None] * 3)[:3])
        append_commit(log, [], [], [2, 3], 5)
        self.assertEqual(log.slots, [tables[0], None, tables[2]])
        append_commit(log, [], [], [3], 4)
        append_commit(log, [], [], [3], 6)
        self.assertEqual((log.slots, log.present), ([None] * 3, table_of(LEAST, {3: 17})))

    def test_slot_holds_the_table_behind_its_commit(self):
        log = new_log(Device(LEAST))
        append_commit(log, [1, 2], payloads(LEAST, 2), [1, 2], 0)
        append_commit(log, [3], payloads(LEAST, 1, 9), [2, 3], 3)
        self.assertEqual(log.slots, [None, None, table_of(LEAST, {2: 14, 3: 16})])
        append_commit(log, [2], payloads(LEAST, 1, 20), [2], 0)
        self.assertEqual(contents_of(log, log.slots[2]), {2: data(LEAST, 2), 3: data(LEAST, 9)})
        self.assertEqual(contents_of(log, log.present), {2: data(LEAST, 20)})

    def test_slots_are_copies(self):
        log = new_log(Device(LEAST))
        append_commit(log, [1], payloads(LEAST, 1), [1], 1)
        log.present[1] = 99
        self.assertEqual(log.slots[0], table_of(LEAST, {1: 13}))

    def test_lists_are_neither_changed_nor_kept(self):
        log = new_log(Device(LEAST))
        ids = [1, 2]
        blocks = payloads(LEAST, 2)
        used = [1, 2, 5]
        append_commit(log, ids, blocks, used, 1)
        self.assertEqual((ids, blocks, used), ([1, 2], payloads(LEAST, 2), [1, 2, 5]))
        ids.clear()
        blocks.clear()
        used.clear()
        self.assertEqual(log.device.read(12), commit_block(2, (1, 2), (1, 2, 5), 1))
        self.assertEqual(contents_of(log, log.present), {1: data(LEAST, 1), 2: data(LEAST, 2)})


class MoveTest(unittest.TestCase):
    def log(self):
        """Return a log with four ids at 13 to 16, in a slot as well, and a changed id 2 at 18."""
        log = new_log(Device(LEAST))
        append_commit(log, [1, 2, 3, 4], payloads(LEAST, 4), [1, 2, 3, 4], 1)
        append_commit(log, [2], [node(LEAST, 3)], [1, 2, 3, 4], 0)
        return log

    def test_blocks_of_a_move(self):
        log = self.log()
        self.assertIs(append_move(log, [15, 18, 13]), True)
        self.assertEqual(log.device.read(28), move_block(4, (15, 18, 13)))
        self.assertEqual(log.device.read(29), stamped(data(LEAST, 3), 4, 1))
        self.assertEqual(log.device.read(30), stamped(node(LEAST, 3), 4, 2))
        self.assertEqual(log.device.read(31), stamped(data(LEAST, 1), 4, 3))
        self.assertIsNone(log.device.read(32))
        self.assertEqual((log.head, log.place, log.queue, log.last_sequence), (1, 4, [2, 3], 4))

    def test_tables_of_a_move(self):
        log = self.log()
        append_move(log, [15, 18, 13])
        self.assertEqual(log.present, table_of(LEAST, {1: 31, 2: 30, 3: 29, 4: 16}))
        self.assertEqual(log.slots, [table_of(LEAST, {1: 31, 2: 14, 3: 29, 4: 16}), None, None])

    def test_contents_do_not_change(self):
        log = self.log()
        before = [contents_of(log, log.present), contents_of(log, log.slots[0])]
        append_move(log, [18, 16, 14, 13])
        self.assertEqual([contents_of(log, log.present), contents_of(log, log.slots[0])], before)

    def test_all_payloads_are_read_before_the_first_block_is_written(self):
        log = new_log(Device(LEAST))
        append_commit(log, [1, 2], payloads(LEAST, 2), [1, 2], 0)
        log.queue = [0]
        self.assertIs(append_move(log, [14, 13]), True)
        self.assertEqual(log.device.read(12), move_block(3, (14, 13)))
        self.assertEqual(log.device.read(13), stamped(data(LEAST, 2), 3, 1))
        self.assertEqual(log.device.read(14), stamped(data(LEAST, 1), 3, 2))
        self.assertEqual(log.present, table_of(LEAST, {1: 14, 2: 13}))

    def test_move_always_begins_a_segment(self):
        log = self.log()
        append_move(log, [13])
        append_move(log, [29])
        self.assertEqual((log.head, log.place, log.queue), (2, 2, [3]))
        self.assertEqual(log.device.read(44), move_block(5, (29,)))

    def test_move_without_addresses(self):
        log = self.log()
        before = list(log.present)
        self.assertIs(append_move(log, []), True)
        self.assertEqual((log.head, log.place, log.present), (1, 1, before))
        self.assertEqual(log.device.read(28), move_block(4))

    def test_summary_is_written_first_then_the_payloads_in_order(self):
        log = self.log()
        sync_log(log)
        append_move(log, [13, 14])
        for count in range(4):
            left = log.device.left(list(range(count)))
            self.assertEqual([left.read(28 + place) is not None for place in range(3)],
                             [place < count for place in range(3)])

    def check_not_written(self, log, addresses):
        before = state(log)
        self.assertIs(append_move(log, addresses), False)
        self.assertEqual(state(log), before)

    def test_empty_queue(self):
        log = self.log()
        log.queue = []
        self.check_not_written(log, [13])
        self.check_not_written(log, [])

    def test_too_many_addresses(self):
        for layout in LAYOUTS:
            log = new_log(Device(layout))
            ids = list(range(1, layout.payload + 1))
            append_commit(log, ids, payloads(layout, layout.payload), ids, 0)
            append_commit(log, ids[:1], payloads(layout, 1), ids, 0)
            first = address_at(layout, 0, 1)
            addresses = list(range(first, first + layout.payload)) + [address_at(layout, 1, 1)]
            self.check_not_written(log, addresses)
            self.assertIs(append_move(log, addresses[1:]), True)
            self.assertEqual((log.head, log.place), (2, layout.segment_blocks))

    def test_address_that_holds_no_payload_block(self):
        log = self.log()
        for address in (0, 5, 6, 12, 17, 19, 75, 76, 1000):
            self.check_not_written(log, [13, address])
            self.check_not_written(log, [address, 13])
        log.device.write(14, None)
        self.check_not_written(log, [13, 14])

    def test_list_is_neither_changed_nor_kept(self):
        log = self.log()
        addresses = [15, 13]
        append_move(log, addresses)
        self.assertEqual(addresses, [15, 13])
        addresses.clear()
        self.assertEqual(log.device.read(28), move_block(4, (15, 13)))


class SyncTest(unittest.TestCase):
    def test_sync_is_a_barrier(self):
        log = new_log(Device(LEAST))
        append_commit(log, [1, 2], payloads(LEAST, 2), [1, 2], 0)
        before = state(log)
        self.assertIsNone(sync_log(log))
        self.assertEqual(log.device.pending(), 0)
        self.assertEqual(log.device.sure_blocks()[14], stamped(data(LEAST, 2), 2, 2))
        self.assertEqual(state(log)[:7], before[:7])
        self.assertEqual(state(log)[8], before[8])

    def test_sync_is_one_command(self):
        log = new_log(Device(LEAST))
        log.device.cut_after(1)
        sync_log(log)
        self.assertIs(log.device.was_cut(), False)
        sync_log(log)
        self.assertIs(log.device.was_cut(), True)


class ForkTest(unittest.TestCase):
    def log(self):
        log = new_log(Device(GREATEST))
        append_commit(log, [1, 2], payloads(GREATEST, 2), [1, 2], 2)
        write_checkpoint(log)
        append_move(log, [31, 32])
        append_commit(log, [1], payloads(GREATEST, 1), [1], 0)
        return log

    def test_fork_is_in_the_same_state(self):
        log = self.log()
        twin = log.fork()
        self.assertEqual((log.head, log.place, log.region, log.last_sequence), (1, 5, 1, 5))
        self.assertEqual(state(twin), state(log))
        self.assertIs(twin.layout, GREATEST)
        self.assertIsNot(twin.device, log.device)

    def test_later_calls_change_one_alone(self):
        for first, second in ((0, 1), (1, 0)):
            logs = [self.log()]
            logs.append(logs[0].fork())
            before = state(logs[first])
            other = logs[second]
            append_commit(other, [3], payloads(GREATEST, 1), [1, 3], 1)
            append_move(other, [other.present[1]])
            write_checkpoint(other)
            other.counts.barriers = 99
            self.assertEqual(state(logs[first]), before)

    def test_lists_of_a_fork_are_copies(self):
        for first, second in ((0, 1), (1, 0)):
            logs = [self.log()]
            logs.append(logs[0].fork())
            before = state(logs[first])
            other = logs[second]
            other.present[5] = 7
            other.slots[1][5] = 7
            other.slots[2] = []
            other.queue.append(99)
            self.assertEqual(state(logs[first]), before)

    def test_fork_has_the_power_cut(self):
        log = self.log()
        log.device.cut_after(0)
        twin = log.fork()
        sync_log(twin)
        self.assertEqual((twin.device.was_cut(), log.device.was_cut()), (True, False))


if __name__ == "__main__":
    unittest.main()
