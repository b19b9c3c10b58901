"""Points 42 to 46: new logs and recovery."""

import unittest

from helpers import GREATEST, LAYOUTS, LEAST, commit_block, data, move_block, node, part, run_example, shown, table_of
from segmentfs.device.block import stamped
from segmentfs.device.device import Device
from segmentfs.errors import NoCheckpoint, SegmentError
from segmentfs.geometry.layout import address_at
from segmentfs.log.checkpoints import checkpoint_numbers, write_checkpoint
from segmentfs.log.logs import Log, append_commit, append_move, contents_of, sync_log
from segmentfs.log.recovery import batch_at, checkpoint_in, mount_log, new_log, recover

EXAMPLE = """
>>> from segmentfs.geometry.layout import Layout
>>> from segmentfs.device.device import Device
>>> from segmentfs.log.logs import append_commit, contents_of, sync_log
>>> from segmentfs.log.recovery import mount_log, new_log
>>> log = new_log(Device(Layout(4, 16, 64)))
>>> block = (3, (7,) * 64)
>>> append_commit(log, [5], [block], [5], 0)
True
>>> log.present[5], log.head, log.place
(13, 0, 2)
>>> again = mount_log(log.device.left([0, 1]))
>>> contents_of(again, again.present) == {5: block}
True
>>> lost = mount_log(log.device.left([0], torn=[1]))
>>> contents_of(lost, lost.present)
{}
>>> log.counts.as_row()
(1, 2, 0, 0, 1, 6, 2)
"""


def known(log):
    """Return what a log knows, apart from the counts."""
    return (log.present, log.slots, log.head, log.place, log.queue, log.last_sequence, log.region)


def device_with(blocks, layout=LEAST):
    """Return a device with the blocks of a dict behind the checkpoint of a new log."""
    device = new_log(Device(layout)).device
    for address, block in blocks.items():
        device.write(address, block)
    device.barrier()
    return device


def batch(start, summary, *payloads):
    """Return the blocks of a batch by their addresses."""
    blocks = {start: summary}
    for rank, payload in enumerate(payloads, start=1):
        blocks[start + rank] = stamped(payload, summary[1], rank)
    return blocks


def put_checkpoint(device, region, sequence, numbers):
    layout = device.layout
    for rank in range(layout.region_blocks):
        body = tuple(numbers[rank * layout.fan:(rank + 1) * layout.fan])
        device.write(region * layout.region_blocks + rank, (5, sequence, rank, body))


def numbers_of(present, slots=(None, None, None), head=0, place=0, queue=(1, 2, 3), layout=LEAST):
    """Return the numbers of a checkpoint; a table is told by a dict."""
    log = Log(Device(layout))
    log.present = table_of(layout, present)
    log.slots = [None if slot is None else table_of(layout, slot) for slot in slots]
    log.head = head
    log.place = place
    log.queue = list(queue)
    return checkpoint_numbers(log)


class NewLogTest(unittest.TestCase):
    def test_example(self):
        run_example(self, EXAMPLE)

    def test_new_log(self):
        for layout in LAYOUTS:
            device = Device(layout)
            log = new_log(device)
            self.assertIs(log.device, device)
            queue = list(range(1, layout.segments))
            self.assertEqual(known(log), (table_of(layout, {}), [None] * 3, 0, 0, queue, 1, 0))
            self.assertEqual(device.pending(), 0)
            self.assertEqual(checkpoint_in(device, 0), (1, checkpoint_numbers(log)))
            self.assertIsNone(checkpoint_in(device, 1))
            self.assertEqual(len(list(device.written_blocks())), layout.region_blocks)

    def test_new_log_is_recovered(self):
        for layout in LAYOUTS:
            log = new_log(Device(layout))
            self.assertEqual(known(recover(log.device)), known(log))


class CheckpointInTest(unittest.TestCase):
    def device(self):
        device = Device(LEAST)
        for region in (0, 1):
            put_checkpoint(device, region, 7 + region, numbers_of({1: 20, 45: 21}, ({2: 30}, None, {})))
        return device

    def test_checkpoint(self):
        numbers = numbers_of({1: 20, 45: 21}, ({2: 30}, None, {}))
        for region in (0, 1):
            self.assertEqual(checkpoint_in(self.device(), region), (7 + region, numbers))

    def test_numbers_are_a_new_list(self):
        device = self.device()
        checkpoint_in(device, 0)[1].clear()
        self.assertEqual(len(checkpoint_in(device, 0)[1]), 192)

    def test_blank_region(self):
        for region in (0, 1):
            self.assertIsNone(checkpoint_in(Device(LEAST), region))

    def check_none(self, address, block):
        for region in (0, 1):
            device = self.device()
            device.write(6 * region + address, block)
            self.assertIsNone(checkpoint_in(device, region))
            self.assertIsNotNone(checkpoint_in(device, 1 - region))

    def test_blank_part(self):
        for rank in range(6):
            self.check_none(rank, None)

    def test_other_kinds(self):
        for rank in range(6):
            for kind in (3, 4):
                self.check_none(rank, (kind, 7, rank, (0,) * 64))
                self.check_none(rank, (kind, 8, rank, (0,) * 32))
            for sequence in (7, 8):
                self.check_none(rank, (1, sequence, rank, ((), (), 0)))
                self.check_none(rank, (2, sequence, rank, ()))

    def test_kind_node_with_the_same_numbers(self):
        for region in (0, 1):
            for rank in range(6):
                device = self.device()
                block = device.read(6 * region + rank)
                device.write(6 * region + rank, (4,) + block[1:])
                self.assertIsNone(checkpoint_in(device, region))

    def test_other_sequence_numbers(self):
        for rank in range(6):
            for sequence in (0, 6, 9):
                device = self.device()
                body = device.read(rank)[3]
                device.write(rank, (5, sequence, rank, body))
                self.assertIsNone(checkpoint_in(device, 0))

    def test_other_ranks(self):
        for rank in range(6):
            for other in (rank + 1, rank + 6, 65535):
                device = self.device()
                device.write(rank, (5, 7, other, device.read(rank)[3]))
                self.assertIsNone(checkpoint_in(device, 0))

    def test_parts_in_another_order(self):
        device = self.device()
        first, second = device.read(0), device.read(1)
        device.write(0, second)
        device.write(1, first)
        self.assertIsNone(checkpoint_in(device, 0))

    def test_numbers_that_hold_no_checkpoint(self):
        for index, number in ((45, 2), (45 + 46 + 1, 1), (185, 5), (190, 1), (191, 1)):
            device = self.device()
            numbers = numbers_of({1: 20})
            numbers[index] = number
            put_checkpoint(device, 1, 9, numbers)
            self.assertIsNone(checkpoint_in(device, 1))
            self.assertIsNotNone(checkpoint_in(device, 0))

    def test_pending_parts_count(self):
        device = Device(LEAST)
        put_checkpoint(device, 1, 3, numbers_of({}))
        self.assertEqual(device.pending(), 6)
        self.assertEqual(checkpoint_in(device, 1), (3, numbers_of({})))

    def test_sequence_number_0(self):
        device = Device(LEAST)
        put_checkpoint(device, 0, 0, [0] * 192)
        self.assertEqual(checkpoint_in(device, 0), (0, [0] * 192))


class RegionTest(unittest.TestCase):
    def recovered(self, first, second):
        """Return the region and the address of the id 1 of what is recovered from two sequence numbers."""
        device = Device(LEAST)
        if first is not None:
            put_checkpoint(device, 0, first, numbers_of({1: 20}))
        if second is not None:
            put_checkpoint(device, 1, second, numbers_of({1: 21}))
        log = recover(device)
        return (log.region, log.present[1], log.last_sequence)

    def test_greater_sequence_number_is_taken(self):
        self.assertEqual(self.recovered(5, 6), (1, 21, 6))
        self.assertEqual(self.recovered(6, 5), (0, 20, 6))
        self.assertEqual(self.recovered(9, 10), (1, 21, 10))

    def test_equal_sequence_numbers(self):
        self.assertEqual(self.recovered(5, 5), (0, 20, 5))
        self.assertEqual(self.recovered(0, 0), (0, 20, 0))

    def test_single_region(self):
        self.assertEqual(self.recovered(5, None), (0, 20, 5))
        self.assertEqual(self.recovered(None, 5), (1, 21, 5))
        self.assertEqual(self.recovered(None, 0), (1, 21, 0))

    def test_region_that_is_not_whole_is_not_taken(self):
        device = Device(LEAST)
        put_checkpoint(device, 0, 5, numbers_of({1: 20}))
        put_checkpoint(device, 1, 9, numbers_of({1: 21}))
        device.write(11, None)
        log = recover(device)
        self.assertEqual((log.region, log.present[1], log.last_sequence), (0, 20, 9))

    def check_no_checkpoint(self, device):
        before = (shown(device), device.pending(), device.sure_blocks())
        for call in (recover, mount_log):
            with self.assertRaises(NoCheckpoint) as caught:
                call(device)
            self.assertIsInstance(caught.exception, SegmentError)
            self.assertEqual((shown(device), device.pending(), device.sure_blocks()), before)

    def test_no_checkpoint(self):
        for layout in LAYOUTS:
            self.check_no_checkpoint(Device(layout))
        device = device_with(batch(12, commit_block(2, (1,), (1,)), data(LEAST, 1)))
        device.write(5, None)
        self.check_no_checkpoint(device)
        put_checkpoint(device, 1, 4, [2] * 192)
        self.check_no_checkpoint(device)


class BatchAtTest(unittest.TestCase):
    def test_commit_and_move(self):
        summary = commit_block(9, (5, 6), (5, 6), 2)
        device = device_with(batch(30, summary, data(LEAST, 1), node(LEAST, 5)))
        self.assertEqual(batch_at(device, 1, 2, 9), summary)
        summary = move_block(9, (20, 21))
        device = device_with(batch(30, summary, data(LEAST, 1), node(LEAST, 5)))
        self.assertEqual(batch_at(device, 1, 2, 9), summary)

    def test_summary_alone(self):
        for summary in (commit_block(9, (), (1,), 4), move_block(9)):
            device = device_with({75: summary})
            self.assertEqual(batch_at(device, 3, 15, 9), summary)

    def test_other_places_and_segments(self):
        device = device_with(batch(30, commit_block(9, (5,)), data(LEAST, 1)))
        for segment, place in ((1, 1), (1, 3), (0, 2), (2, 2), (1, 0)):
            self.assertIsNone(batch_at(device, segment, place, 9))

    def test_other_sequence_numbers(self):
        device = device_with(batch(30, commit_block(9, (5,)), data(LEAST, 1)))
        for sequence in (0, 8, 10):
            self.assertIsNone(batch_at(device, 1, 2, sequence))

    def test_rank_of_the_summary(self):
        for rank in (1, 65535):
            device = device_with({30: (1, 9, rank, ((), (), 0)), 31: (2, 9, rank, ())})
            self.assertIsNone(batch_at(device, 1, 2, 9))
            self.assertIsNone(batch_at(device, 1, 3, 9))

    def test_blocks_that_are_no_summary(self):
        for block in (None, stamped(data(LEAST, 0), 9, 0), stamped(node(LEAST), 9, 0), part(LEAST, 9)):
            self.assertIsNone(batch_at(device_with({30: block}), 1, 2, 9))

    def test_payload_blocks_that_are_not_whole(self):
        for summary in (commit_block(9, (5, 6, 7), (5, 6, 7)), move_block(9, (20, 21, 22))):
            blocks = batch(30, summary, data(LEAST, 1), node(LEAST, 5), data(LEAST, 3))
            self.assertEqual(batch_at(device_with(blocks), 1, 2, 9), summary)
            for rank in (1, 2, 3):
                for block in (None, stamped(data(LEAST, 1), 8, rank), stamped(data(LEAST, 1), 10, rank),
                              stamped(data(LEAST, 1), 9, rank + 1), stamped(data(LEAST, 1), 9, rank - 1),
                              part(LEAST, 9, rank), (1, 9, rank, ((), (), 0)), (2, 9, rank, ())):
                    changed = dict(blocks)
                    changed[30 + rank] = block
                    self.assertIsNone(batch_at(device_with(changed), 1, 2, 9))

    def test_block_behind_the_batch_does_not_count(self):
        blocks = batch(30, commit_block(9, (5,)), data(LEAST, 1))
        blocks[32] = stamped(data(LEAST, 1), 9, 2)
        self.assertIsNotNone(batch_at(device_with(blocks), 1, 2, 9))

    def test_batch_that_ends_with_the_segment_or_would_go_beyond_it(self):
        for layout in LAYOUTS:
            last = layout.segment_blocks - 1
            for count in (1, 2, layout.payload - 1, layout.payload):
                for summary in (commit_block(9, (5,) * count), move_block(9, (20,) * count)):
                    start = address_at(layout, 1, last - count)
                    blocks = batch(start, summary, *[data(layout, 1)] * count)
                    device = device_with(blocks, layout)
                    self.assertEqual(batch_at(device, 1, last - count, 9), summary)
                    blocks = batch(start + 1, summary, *[data(layout, 1)] * count)
                    device = device_with(blocks, layout)
                    self.assertIsNone(batch_at(device, 1, last - count + 1, 9))

    def test_segments_and_places_that_are_not_there(self):
        for layout in LAYOUTS:
            start = address_at(layout, 2, 0)
            device = device_with({start: commit_block(9)}, layout)
            self.assertIsNotNone(batch_at(device, 2, 0, 9))
            self.assertIsNone(batch_at(device, 1, layout.segment_blocks, 9))
            self.assertIsNone(batch_at(device, 0, 2 * layout.segment_blocks, 9))
            for segment in (layout.segments, layout.segments + 1, 65535):
                self.assertIsNone(batch_at(device, segment, 0, 9))
            self.assertIsNone(batch_at(device, 0, 65535, 9))

    def test_pending_blocks_count(self):
        device = new_log(Device(LEAST)).device
        device.write(30, commit_block(9))
        self.assertEqual(batch_at(device, 1, 2, 9), commit_block(9))


class RecoverTest(unittest.TestCase):
    def test_commits_behind_one_another(self):
        log = new_log(Device(LEAST))
        for ident in (1, 2, 3):
            append_commit(log, [ident, 9], [data(LEAST, ident)] * 2, list(range(1, 10)), ident)
        found = recover(log.device)
        self.assertIs(found.device, log.device)
        self.assertEqual(known(found), known(log))
        self.assertEqual(contents_of(found, found.present)[2], data(LEAST, 2))

    def test_commits_in_the_segments_of_the_queue(self):
        log = new_log(Device(LEAST))
        for fill in range(3):
            append_commit(log, list(range(1, 10)), [data(LEAST, fill)] * 9, list(range(1, 10)), 0)
        self.assertEqual((log.head, log.queue), (2, [3]))
        self.assertEqual(known(recover(log.device)), known(log))

    def test_queue_in_another_order(self):
        device = Device(LEAST)
        put_checkpoint(device, 0, 1, numbers_of({}, head=3, place=16, queue=(2, 0, 1)))
        log = recover(device)
        self.assertEqual((log.head, log.place, log.queue), (3, 16, [2, 0, 1]))
        append_commit(log, [1], [data(LEAST, 1)], [1], 0)
        append_move(log, [45])
        self.assertEqual((log.head, log.queue, log.present[1]), (0, [1], 13))
        self.assertEqual(known(recover(device))[:6], known(log)[:6])

    def test_moves(self):
        log = new_log(Device(LEAST))
        append_commit(log, [1, 2], [data(LEAST, 1), data(LEAST, 2)], [1, 2], 1)
        append_commit(log, [2], [data(LEAST, 3)], [1, 2], 0)
        append_move(log, [16, 13, 14])
        append_commit(log, [4], [data(LEAST, 4)], [1, 2, 4], 0)
        append_move(log, [29])
        self.assertEqual(known(recover(log.device)), known(log))

    def test_move_at_the_place_of_the_head_is_no_batch(self):
        blocks = batch(12, commit_block(2, (1,), (1,)), data(LEAST, 1))
        blocks.update(batch(14, move_block(3, (13,)), data(LEAST, 1)))
        log = recover(device_with(blocks))
        self.assertEqual((log.head, log.place, log.present[1], log.last_sequence), (0, 2, 13, 3))

    def test_move_behind_the_place_of_the_head_does_not_hide_the_next_batch(self):
        for summary in (move_block(3, (13,)), commit_block(3, (1,), (1,))):
            blocks = batch(12, commit_block(2, (1,), (1,)), data(LEAST, 1))
            blocks.update(batch(14, move_block(3, (13,)), data(LEAST, 1)))
            blocks.update(batch(28, summary, data(LEAST, 1)))
            log = recover(device_with(blocks))
            self.assertEqual((log.head, log.place, log.queue, log.present[1]), (1, 2, [2, 3], 29))

    def test_commit_at_the_place_of_the_head_goes_first(self):
        blocks = batch(12, commit_block(2, (1,), (1,)), data(LEAST, 1))
        blocks.update(batch(28, commit_block(2, (2,), (2,)), data(LEAST, 2)))
        log = recover(device_with(blocks))
        self.assertEqual((log.head, log.place, log.queue), (0, 2, [1, 2, 3]))
        self.assertEqual(contents_of(log, log.present), {1: data(LEAST, 1)})

    def test_batch_at_another_place_or_segment_is_not_found(self):
        for start in (13, 29, 44, 60):
            log = recover(device_with(batch(start, commit_block(2, (1,), (1,)), data(LEAST, 1))))
            self.assertEqual((log.head, log.place, log.present), (0, 0, table_of(LEAST, {})))
            self.assertEqual(log.last_sequence, 2)

    def test_sequence_numbers_are_consecutive(self):
        blocks = batch(12, commit_block(2, (1,), (1,)), data(LEAST, 1))
        blocks.update(batch(14, commit_block(4, (1,), (1,)), data(LEAST, 2)))
        log = recover(device_with(blocks))
        self.assertEqual((log.place, log.present[1], log.last_sequence), (2, 13, 4))
        log = recover(device_with(batch(12, commit_block(1, (1,), (1,)), data(LEAST, 1))))
        self.assertEqual((log.place, log.present[1], log.last_sequence), (0, 0, 1))

    def test_batch_that_is_not_whole_ends_the_way(self):
        log = new_log(Device(LEAST))
        append_commit(log, [1], [data(LEAST, 1)], [1], 0)
        append_commit(log, [1], [data(LEAST, 2)], [1], 0)
        append_commit(log, [1], [data(LEAST, 3)], [1], 0)
        log.device.write(15, None)
        found = recover(log.device)
        self.assertEqual((found.place, found.present[1], found.last_sequence), (2, 13, 4))

    def test_ids_listed_twice_0_or_beyond_the_last_one(self):
        summary = commit_block(2, (3, 0, 3, 46, 65535, 45), (2, 3, 45), 2)
        log = recover(device_with(batch(12, summary, *[data(LEAST, n) for n in range(6)])))
        self.assertEqual(log.present, table_of(LEAST, {3: 15, 45: 18}))
        self.assertEqual(log.slots, [None, log.present, None])
        self.assertEqual(log.place, 7)

    def test_address_listed_twice_in_a_move(self):
        device = Device(LEAST)
        put_checkpoint(device, 0, 1, numbers_of({1: 20, 2: 21}, ({1: 21}, None, None)))
        for address, block in batch(28, move_block(2, (21, 20, 21, 0)), *[data(LEAST, 1)] * 4).items():
            device.write(address, block)
        log = recover(device)
        self.assertEqual((log.present, log.slots[0]), (table_of(LEAST, {1: 30, 2: 29}), table_of(LEAST, {1: 29})))

    def test_all_actions(self):
        for action in range(7):
            device = Device(LEAST)
            put_checkpoint(device, 1, 1, numbers_of({1: 20, 2: 21}, ({1: 20}, {1: 30}, {1: 31})))
            device.write(12, commit_block(2, (), (1,), action))
            slots = [table_of(LEAST, {1: address}) for address in (20, 30, 31)]
            if 1 <= action <= 3:
                slots[action - 1] = table_of(LEAST, {1: 20})
            elif action:
                slots[action - 4] = None
            log = recover(device)
            self.assertEqual((log.present, log.slots), (table_of(LEAST, {1: 20}), slots))

    def test_last_sequence_number_is_the_greatest_one_of_the_device(self):
        for address in (7, 12, 40, 75):
            log = recover(device_with({address: stamped(data(LEAST, 1), 2 ** 40, 3)}))
            self.assertEqual((log.last_sequence, log.place), (2 ** 40, 0))
        log = recover(device_with({12: commit_block(2), 40: part(LEAST, 1)}))
        self.assertEqual((log.last_sequence, log.place), (2, 1))

    def test_recovery_writes_nothing(self):
        log = new_log(Device(LEAST))
        append_commit(log, [1], [data(LEAST, 1)], [1], 0)
        sync_log(log)
        append_commit(log, [2], [data(LEAST, 1)], [1, 2], 0)
        before = (shown(log.device), log.device.pending(), log.device.sure_blocks())
        log.device.cut_after(0)
        recover(log.device)
        self.assertIs(log.device.was_cut(), False)
        self.assertEqual((shown(log.device), log.device.pending(), log.device.sure_blocks()), before)

    def test_recovery_with_pending_writes(self):
        log = new_log(Device(LEAST))
        append_commit(log, [1], [data(LEAST, 1)], [1], 3)
        append_commit(log, [2], [data(LEAST, 2)], [1, 2], 0)
        self.assertEqual(log.device.pending(), 4)
        self.assertEqual(known(recover(log.device)), known(log))

    def test_recovery_behind_a_power_cut_reads_what_is_read(self):
        log = new_log(Device(LEAST))
        log.device.cut_after(1)
        append_commit(log, [1], [data(LEAST, 1)], [1], 0)
        self.assertEqual(known(recover(log.device)), known(log))
        self.assertEqual(recover(log.device.left([0, 1])).present[1], 0)

    def test_strange_numbers_of_a_checkpoint(self):
        for head, place, queue in ((9, 0, ()), (65535, 65535, (9, 8)), (0, 16, (4,)), (1, 3, (65535, 1, 2, 3))):
            device = Device(LEAST)
            put_checkpoint(device, 0, 3, numbers_of({1: 65535}, head=head, place=place, queue=queue))
            log = recover(device)
            self.assertEqual(known(log), (table_of(LEAST, {1: 65535}), [None] * 3, head, place, list(queue), 3, 0))
            self.assertEqual(contents_of(log, log.present), {})

    def test_recovered_log_goes_on(self):
        log = new_log(Device(GREATEST))
        append_commit(log, [1, 2], [data(GREATEST, 1)] * 2, [1, 2], 1)
        found = recover(log.device.fork())
        for each in (log, found):
            append_commit(each, [2], [data(GREATEST, 7)], [1, 2], 0)
            append_move(each, [each.present[2], each.present[1]])
            write_checkpoint(each)
        self.assertEqual(known(found), known(log))
        self.assertEqual(shown(found.device), shown(log.device))


class MountTest(unittest.TestCase):
    def test_mounting_is_recovery_and_a_checkpoint(self):
        log = new_log(Device(LEAST))
        append_commit(log, [1], [data(LEAST, 1)], [1], 0)
        append_commit(log, [1], [data(LEAST, 2)], [1], 0)
        device = log.device.fork()
        mounted = mount_log(device)
        expected = recover(log.device)
        write_checkpoint(expected)
        self.assertIs(mounted.device, device)
        self.assertEqual(known(mounted), known(expected))
        self.assertEqual((mounted.region, mounted.last_sequence, device.pending()), (1, 4, 0))
        self.assertEqual(shown(device), shown(log.device))
        self.assertEqual(checkpoint_in(device, 1), (4, checkpoint_numbers(mounted)))

    def test_checkpoint_has_a_greater_sequence_number_than_all_blocks(self):
        device = device_with({40: stamped(data(LEAST, 1), 500, 3)})
        self.assertEqual(mount_log(device).last_sequence, 501)
        self.assertEqual(checkpoint_in(device, 1)[0], 501)

    def test_mounting_makes_pending_writes_sure(self):
        log = new_log(Device(LEAST))
        append_commit(log, [1], [data(LEAST, 1)], [1], 0)
        mounted = mount_log(log.device)
        self.assertEqual(mounted.device.sure_blocks(), shown(mounted.device))
        self.assertEqual(known(recover(mounted.device.left([]))), known(mounted))

    def test_mounting_twice_changes_the_region(self):
        device = new_log(Device(LEAST)).device
        self.assertEqual([mount_log(device).region for _ in range(4)], [1, 0, 1, 0])

    def test_mounting_frees_segments(self):
        log = new_log(Device(LEAST))
        ids = list(range(1, 16))
        for fill in range(3):
            append_commit(log, ids, [data(LEAST, fill)] * 15, ids, 0)
        self.assertEqual(recover(log.device).queue, [3])
        self.assertEqual(mount_log(log.device).queue, [3, 0, 1])


if __name__ == "__main__":
    unittest.main()
