"""Points 129 and 130: the faults of the tables of a log, and of the blocks that it needs."""

import itertools
import unittest

from helpers import (
    GREATEST, LAYOUTS, LEAST, MIDDLE, commit_block, data, live_log, move_block, node, part, table_of, whole_state)
from segmentfs.checker.tables import block_fault, table_fault
from segmentfs.device.block import stamped
from segmentfs.device.device import Device
from segmentfs.geometry.layout import address_at
from segmentfs.log.logs import append_commit
from segmentfs.log.recovery import mount_log, new_log, recover


def sound_log(layout=LEAST):
    """Return a log without faults: the segment 0 is full, the head is the segment 1, the segment 2 is free."""
    log = live_log(layout, [layout.payload, 3], head=1, place=4, queue=[2])
    log.slots[0] = list(log.present)
    log.slots[1] = table_of(layout, {1: log.present[2], 2: log.present[2]})
    log.slots[1][1] = 0
    return log


# Each of these makes one fault in a sound log of the least layout, in the order of the table of point 129.
def break_head(log):
    log.head = 4


def break_place(log):
    log.place = 17


def break_queue(log):
    log.queue = log.queue + [9]


def break_queue_twice(log):
    log.queue = log.queue + [3, 3]


def misplace(log):
    log.present[45] = 3


def use_twice(log):
    log.present[44] = log.present[3]


def use_too_many(log):
    for ident in range(19, 33):
        log.present[ident] = address_at(LEAST, 3, ident - 18)


def use_all_segments(log):
    log.queue = [segment for segment in log.queue if segment != 2]
    log.present[43] = address_at(LEAST, 2, 5)
    log.present[42] = address_at(LEAST, 3, 15)


def share_superblock(log):
    log.slots[2] = table_of(LEAST, {1: log.slots[0][1]})


BREAKS = (
    (break_head, ("no such head", 4)),
    (break_place, ("no such place", 17)),
    (break_queue, ("no such segment", 9)),
    (break_queue_twice, ("a segment is free twice", 3)),
    (misplace, ("a live block is misplaced", 3)),
    (use_twice, ("an address is used twice", address_at(LEAST, 0, 3))),
    (use_too_many, ("too many blocks", 32)),
    (use_all_segments, ("no segment can be free", 0)),
    (share_superblock, ("two snapshots share a superblock", address_at(LEAST, 0, 1))),
)


class TableFaultTest(unittest.TestCase):
    def check(self, log, expected):
        before = whole_state(log)
        self.assertEqual(table_fault(log), expected)
        self.assertEqual(whole_state(log), before)

    def test_no_fault(self):
        for layout in LAYOUTS:
            self.check(new_log(Device(layout)), None)
            self.check(sound_log(layout), None)

    def test_each_fault_alone(self):
        for change, expected in BREAKS:
            log = sound_log()
            change(log)
            self.check(log, expected)

    def test_two_faults_at_once(self):
        for (change, expected), (other, _) in itertools.combinations(BREAKS, 2):
            for first, second in ((change, other), (other, change)):
                log = sound_log()
                first(log)
                second(log)
                # The number of live addresses is another one with some of the other faults.
                self.assertEqual(table_fault(log)[0], expected[0], (first.__name__, second.__name__))

    def test_head(self):
        for layout in LAYOUTS:
            log = live_log(layout, [2], head=layout.segments - 1, place=0, queue=[2])
            self.check(log, None)
            log.head = layout.segments
            self.check(log, ("no such head", layout.segments))
            log.head = 65535
            self.check(log, ("no such head", 65535))

    def test_place(self):
        for layout in LAYOUTS:
            log = live_log(layout, [layout.payload], place=layout.segment_blocks, queue=[2])
            self.check(log, None)
            log.place = layout.segment_blocks + 1
            self.check(log, ("no such place", layout.segment_blocks + 1))

    def test_place_0(self):
        self.check(live_log(LEAST, [0, 4], place=0, queue=[2]), None)

    def test_segments_of_the_queue(self):
        log = live_log(LEAST, [2], queue=[3, 1, 2])
        self.check(log, None)
        log.queue = [3, 4, 5]
        self.check(log, ("no such segment", 4))
        log.queue = [3, 65535, 3, 4]
        self.check(log, ("no such segment", 65535))

    def test_empty_queue(self):
        self.check(live_log(LEAST, [2, 3], queue=[]), None)

    def test_head_in_the_queue(self):
        self.check(live_log(LEAST, [2], head=0, place=3, queue=[1, 0, 2]), ("a segment is free twice", 0))

    def test_first_item_that_occurs_again(self):
        self.check(live_log(LEAST, [2], place=3, queue=[3, 1, 1, 3]), ("a segment is free twice", 3))
        self.check(live_log(LEAST, [2], place=3, queue=[2, 1, 1, 3]), ("a segment is free twice", 1))
        self.check(live_log(LEAST, [2], place=3, queue=[3, 3, 0]), ("a segment is free twice", 0))

    def test_addresses_in_no_segment(self):
        for layout in LAYOUTS:
            first = 2 * layout.region_blocks
            for address in (1, first - 1, layout.device_blocks, 65535):
                log = sound_log(layout)
                log.present[layout.last_id] = address
                self.check(log, ("a live block is misplaced", address))
            for address in (first + 1, layout.device_blocks - 1):
                log = live_log(layout, [], head=1, place=4, queue=[2])
                log.present[layout.last_id] = address
                self.check(log, None)

    def test_place_0_of_a_segment(self):
        for layout in LAYOUTS:
            for segment in (0, 1, 3, layout.segments - 1):
                log = live_log(layout, [], head=1, place=layout.segment_blocks, queue=[2])
                log.slots[2] = table_of(layout, {4: address_at(layout, segment, 0)})
                self.check(log, ("a live block is misplaced", address_at(layout, segment, 0)))
                log.slots[2][4] += 1
                self.check(log, None)

    def test_live_block_in_a_free_segment(self):
        log = live_log(LEAST, [2, 0, 0, 4], head=0, place=3, queue=[2, 3])
        self.check(log, ("a live block is misplaced", address_at(LEAST, 3, 1)))

    def test_live_block_at_the_place_of_the_head(self):
        for layout in LAYOUTS:
            log = live_log(layout, [5], place=6, queue=[2])
            self.check(log, None)
            log.place = 5
            self.check(log, ("a live block is misplaced", address_at(layout, 0, 5)))
            log.place = 3
            self.check(log, ("a live block is misplaced", address_at(layout, 0, 3)))
            log.head = 1
            self.check(log, None)

    def test_least_misplaced_address(self):
        log = sound_log()
        log.slots[2] = table_of(LEAST, {1: 76, 2: 44, 3: 30, 4: 20})
        self.check(log, ("a live block is misplaced", 44))

    def test_two_ids_of_one_address(self):
        log = sound_log()
        address = log.present[7]
        log.slots[2] = table_of(LEAST, {7: address, 9: log.present[9]})
        self.check(log, None)
        log.slots[2] = table_of(LEAST, {8: address, 10: log.present[9]})
        self.check(log, ("an address is used twice", address))
        log.slots[2] = table_of(LEAST, {10: log.present[9]})
        self.check(log, ("an address is used twice", log.present[9]))

    def test_two_ids_of_one_address_in_slots_alone(self):
        log = sound_log()
        address = address_at(LEAST, 3, 7)
        log.slots[1] = table_of(LEAST, {5: address})
        log.slots[2] = table_of(LEAST, {5: address})
        self.check(log, None)
        log.slots[2] = table_of(LEAST, {6: address})
        self.check(log, ("an address is used twice", address))
        log.slots[2] = table_of(LEAST, {5: address, 6: address})
        log.slots[1] = None
        self.check(log, ("an address is used twice", address))

    def test_number_of_blocks(self):
        for layout in LAYOUTS:
            payload = layout.payload
            log = live_log(layout, [payload] * (layout.segments - 2), head=0, queue=[])
            self.check(log, None)
            ident = layout.last_id
            log.slots[0] = table_of(layout, {ident: address_at(layout, layout.segments - 1, 3)})
            self.check(log, ("too many blocks", layout.limit + 1))
            log.present[ident - 1] = address_at(layout, layout.segments - 1, 4)
            self.check(log, ("too many blocks", layout.limit + 2))

    def test_blocks_of_several_tables_count_once(self):
        log = live_log(LEAST, [15, 15, 0, 0], head=0, queue=[])
        log.slots = [list(log.present), list(log.present), list(log.present)]
        log.slots[1][1] = 0
        log.slots[2][1] = 0
        self.check(log, None)

    def test_segments_that_can_be_free(self):
        self.check(live_log(LEAST, [1, 1, 1, 1]), ("no segment can be free", 0))
        self.check(live_log(LEAST, [0, 1, 1, 1]), ("no segment can be free", 0))
        self.check(live_log(LEAST, [1, 1, 0, 1]), None)
        self.check(live_log(LEAST, [1, 1, 0, 1], queue=[2]), None)
        for layout in LAYOUTS:
            head = layout.segments - 1
            self.check(live_log(layout, [1] * (layout.segments - 1), head=head), ("no segment can be free", 0))

    def test_superblocks_of_snapshots(self):
        first, second = address_at(LEAST, 0, 1), address_at(LEAST, 1, 1)
        rows = (
            ((first, second, None), None), ((first, None, first), first), ((None, first, first), first),
            ((first, first, second), first), ((second, first, second), second), ((second, first, first), first),
            ((first, first, first), first), ((0, 0, None), None), ((0, None, 0), None), ((0, 0, 0), None),
            ((0, first, first), first), ((first, 0, first), first), ((first, first, 0), first), ((0, 0, first), None),
        )
        for addresses, expected in rows:
            log = live_log(LEAST, [], head=2, queue=[3])
            log.slots = [None if address is None else table_of(LEAST, {1: address}) for address in addresses]
            fault = None if expected is None else ("two snapshots share a superblock", expected)
            self.check(log, fault)

    def test_present_table_may_share_the_superblock(self):
        log = sound_log()
        self.assertEqual(log.slots[0][1], log.present[1])
        self.check(log, None)

    def test_slots_with_other_equal_addresses(self):
        log = sound_log()
        log.slots[2] = list(log.present)
        log.slots[2][1] = 0
        self.check(log, None)

    def test_logs_that_were_written(self):
        for layout in LAYOUTS:
            log = new_log(Device(layout))
            for number in range(12):
                ids = [1 + (number + count) % 9 for count in range(4)]
                append_commit(log, sorted(ids), [data(layout, number)] * 4, list(range(1, 10)), (0, 1, 0, 4)[number % 4])
                self.check(log, None)
                self.check(recover(log.device), None)
            self.check(mount_log(log.device.left([])), None)


class BlockFaultTest(unittest.TestCase):
    def check(self, log, expected):
        before = whole_state(log)
        self.assertEqual(block_fault(log), expected)
        self.assertEqual(whole_state(log), before)

    def test_no_fault(self):
        for layout in LAYOUTS:
            self.check(new_log(Device(layout)), None)
            self.check(sound_log(layout), None)

    def test_blocks_that_are_no_payload(self):
        address = address_at(LEAST, 0, 5)
        for wrong in (None, commit_block(3), move_block(3), part(LEAST, 3)):
            log = sound_log()
            log.device.write(address, wrong)
            self.check(log, ("a needed block is no payload", address))

    def test_block_that_only_a_slot_needs(self):
        log = sound_log()
        address = address_at(LEAST, 3, 8)
        log.slots[1] = table_of(LEAST, {9: address})
        self.check(log, ("a needed block is no payload", address))
        log.device.write(address, stamped(data(LEAST, 1), 7, 1))
        self.check(log, None)

    def test_blocks_that_are_not_needed(self):
        log = sound_log()
        log.device.write(address_at(LEAST, 3, 8), commit_block(3))
        log.device.write(address_at(LEAST, 3, 9), stamped(node(LEAST, 65535), 3, 1))
        self.check(log, None)

    def test_ids_of_node_blocks(self):
        for layout in LAYOUTS:
            address = address_at(layout, 0, 3)
            for place in (0, 7, layout.fan - 1):
                for ident, fault in ((layout.last_id, None), (layout.last_id + 1, 1), (65535, 1)):
                    items = [0] * layout.fan
                    items[place] = ident
                    log = sound_log(layout)
                    log.device.write(address, stamped(node(layout, *items), 4, 1))
                    self.check(log, fault and ("a block does not fit the layout", address))

    def test_octets_are_no_ids(self):
        log = sound_log()
        log.device.write(address_at(LEAST, 0, 3), stamped(data(LEAST, 255), 4, 1))
        self.check(log, None)

    def test_least_address_decides(self):
        low, high = address_at(LEAST, 0, 2), address_at(LEAST, 1, 3)
        wrong = stamped(node(LEAST, 46), 4, 1)
        for blocks, text in (((None, wrong), "a needed block is no payload"),
                             ((wrong, None), "a block does not fit the layout")):
            log = sound_log()
            log.device.write(low, blocks[0])
            log.device.write(high, blocks[1])
            self.check(log, (text, low))

    def test_other_layouts(self):
        for layout in (MIDDLE, GREATEST):
            log = sound_log(layout)
            log.device.write(log.present[layout.payload + 1], None)
            self.check(log, ("a needed block is no payload", address_at(layout, 1, 1)))


if __name__ == "__main__":
    unittest.main()
