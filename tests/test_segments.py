"""Points 55 and 56: segments, their live blocks, their ages, and the candidates."""

import unittest

from helpers import (
    GREATEST, LAYOUTS, LEAST, MIDDLE, commit_block, data, live_log, part, rounded_up, table_of, whole_state)
from segmentfs.device.block import stamped
from segmentfs.device.device import Device
from segmentfs.geometry.layout import address_at
from segmentfs.log.checkpoints import write_checkpoint
from segmentfs.log.logs import Log, append_commit
from segmentfs.log.recovery import new_log
from segmentfs.room.segments import ages, candidates, live_counts, segment_rows


class LiveCountsTest(unittest.TestCase):
    def test_new_log(self):
        for layout in LAYOUTS:
            self.assertEqual(live_counts(new_log(Device(layout))), [0] * layout.segments)

    def test_blocks_of_all_tables_count_once(self):
        log = Log(Device(LEAST))
        first = address_at(LEAST, 1, 1)
        log.present = table_of(LEAST, {1: first, 2: first + 1, 3: 75})
        log.slots[0] = table_of(LEAST, {1: first, 2: first + 2})
        log.slots[2] = table_of(LEAST, {9: first + 1, 45: first + 2, 7: 12})
        self.assertEqual(live_counts(log), [1, 3, 0, 1])

    def test_ends_of_segments(self):
        for layout in LAYOUTS:
            for segment in range(layout.segments):
                log = Log(Device(layout))
                addresses = (address_at(layout, segment, 0), address_at(layout, segment, layout.segment_blocks - 1))
                log.present = table_of(layout, {1: addresses[0], layout.last_id: addresses[1]})
                expected = [2 if other == segment else 0 for other in range(layout.segments)]
                self.assertEqual(live_counts(log), expected)

    def test_addresses_in_no_segment_are_ignored(self):
        log = Log(Device(LEAST))
        log.present = table_of(LEAST, {1: 1, 2: 11, 3: 12, 4: 76, 5: 65535})
        self.assertEqual(live_counts(log), [1, 0, 0, 0])

    def test_list_is_new(self):
        log = live_log(LEAST, [1, 2, 3, 4])
        live_counts(log).clear()
        self.assertEqual(live_counts(log), [1, 2, 3, 4])


class AgesTest(unittest.TestCase):
    def test_blank_segments(self):
        log = Log(Device(LEAST))
        self.assertEqual(ages(log), [0, 0, 0, 0])
        log.last_sequence = 7
        self.assertEqual(ages(log), [7, 7, 7, 7])

    def test_new_log(self):
        for layout in LAYOUTS:
            self.assertEqual(ages(new_log(Device(layout))), [1] * layout.segments)

    def test_greatest_sequence_number_of_any_block_counts(self):
        log = Log(Device(LEAST))
        first = address_at(LEAST, 2, 0)
        log.device.write(first, commit_block(4))
        log.device.write(first + 7, stamped(data(LEAST, 1), 9, 1))
        log.device.write(first + 15, part(LEAST, 6))
        log.last_sequence = 20
        self.assertEqual(ages(log), [20, 20, 11, 20])

    def test_ends_of_segments(self):
        for layout in LAYOUTS:
            log = Log(Device(layout))
            for segment in range(layout.segments):
                place = (segment % 2) * (layout.segment_blocks - 1)
                log.device.write(address_at(layout, segment, place), commit_block(segment))
            log.last_sequence = 30
            self.assertEqual(ages(log), [30 - segment for segment in range(layout.segments)])

    def test_blocks_of_the_regions_do_not_count(self):
        log = Log(Device(LEAST))
        log.device.write(0, part(LEAST, 8))
        log.device.write(11, part(LEAST, 9))
        log.last_sequence = 10
        self.assertEqual(ages(log), [10, 10, 10, 10])

    def test_what_is_read_counts(self):
        log = Log(Device(LEAST))
        log.device.write(12, commit_block(3))
        log.device.barrier()
        log.device.cut_after(0)
        log.device.write(12, commit_block(5))
        log.last_sequence = 5
        self.assertEqual(ages(log), [0, 5, 5, 5])
        log.device.write(12, None)
        self.assertEqual(ages(log), [5, 5, 5, 5])

    def test_blocks_that_are_not_live_count(self):
        log = new_log(Device(LEAST))
        append_commit(log, [1], [data(LEAST, 1)], [1], 0)
        append_commit(log, [], [], [], 0)
        self.assertEqual((live_counts(log), ages(log)), ([0] * 4, [0, 3, 3, 3]))


class SegmentRowsTest(unittest.TestCase):
    def test_rows(self):
        log = live_log(LEAST, [3, 0, 15, 1], sequences=[9, 0, 2, 5], head=3, queue=[1])
        self.assertEqual(
            segment_rows(log), [("used", 3, 0), ("free", 0, 9), ("used", 15, 7), ("head", 1, 4)])

    def test_head_in_the_queue(self):
        log = live_log(LEAST, [3, 2, 1, 0], head=1, queue=[2, 1])
        self.assertEqual([row[0] for row in segment_rows(log)], ["used", "free", "free", "used"])

    def test_new_log(self):
        for layout in LAYOUTS:
            rows = segment_rows(new_log(Device(layout)))
            self.assertEqual(rows, [("head", 0, 1)] + [("free", 0, 1)] * (layout.segments - 1))

    def test_segment_without_live_blocks_is_used_until_a_checkpoint(self):
        log = live_log(LEAST, [0, 4, 0, 2], head=1, queue=[])
        self.assertEqual([row[0] for row in segment_rows(log)], ["used", "head", "used", "used"])
        write_checkpoint(log)
        self.assertEqual([row[0] for row in segment_rows(log)], ["free", "head", "free", "used"])


class CandidatesTest(unittest.TestCase):
    def test_no_live_block_and_all_but_one_and_all(self):
        for layout in LAYOUTS:
            payload = layout.payload
            lives = [0, 1, payload - 1, payload] + [0] * (layout.segments - 4)
            self.assertEqual(candidates(live_log(layout, lives, head=0)), [1, 2])

    def test_more_than_payload_live_blocks(self):
        log = live_log(LEAST, [2, 15, 0, 0], head=3)
        log.present[40] = address_at(LEAST, 1, 0)
        self.assertEqual((live_counts(log)[1], candidates(log)), (16, [0]))

    def test_head_can_be_a_candidate(self):
        self.assertEqual(candidates(live_log(LEAST, [3, 14, 15, 0], head=1)), [0, 1])
        self.assertEqual(candidates(live_log(LEAST, [3, 15, 15, 0], head=1)), [0])
        self.assertEqual(candidates(live_log(LEAST, [3, 0, 15, 0], head=1)), [0])

    def test_free_segments_are_none(self):
        self.assertEqual(candidates(live_log(LEAST, [3, 4, 5, 6], head=0, queue=[2, 1])), [0, 3])
        self.assertEqual(candidates(live_log(LEAST, [3, 4, 5, 6], head=0, queue=[0, 1, 2, 3])), [])

    def test_blank_blocks_can_be_live(self):
        log = Log(Device(LEAST))
        log.present = table_of(LEAST, {1: 50})
        self.assertEqual(candidates(log), [2])

    def test_no_candidates(self):
        for layout in LAYOUTS:
            self.assertEqual(candidates(new_log(Device(layout))), [])


class QuestionsTest(unittest.TestCase):
    def test_questions_change_nothing(self):
        for layout in (MIDDLE, GREATEST):
            lives = [rounded_up(segment, 2) for segment in range(layout.segments)]
            log = live_log(layout, lives, head=2, queue=[0])
            before = whole_state(log)
            for question in (live_counts, ages, segment_rows, candidates):
                question(log)
            self.assertEqual(whole_state(log), before)


if __name__ == "__main__":
    unittest.main()
