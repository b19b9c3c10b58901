"""Points 57 to 59: fillings."""

import random
import unittest

from helpers import GREATEST, LAYOUTS, LEAST, MIDDLE, live_log, shown, whole_state
from segmentfs.device.block import MOVE
from segmentfs.geometry.layout import address_at, segment_of
from segmentfs.log.logs import contents_of, live_addresses
from segmentfs.room.filling import cargo, fill, victims
from segmentfs.room.segments import candidates, live_counts


def addresses_in(log, segment):
    return [address for address in live_addresses(log) if segment_of(log.layout, address) == segment]


class VictimsTest(unittest.TestCase):
    def log(self):
        """Return a log with the candidates 0, 1, 3, 4 and 5; the segment 4 is the head."""
        return live_log(MIDDLE, [3, 9, 0, 1, 4, 17, 18], head=4, queue=[2])

    def test_empty_order(self):
        self.assertEqual(victims(self.log(), []), [0, 1, 3, 5, 4])

    def test_whole_order(self):
        self.assertEqual(victims(self.log(), [5, 3, 1, 0]), [5, 3, 1, 0, 4])

    def test_part_of_an_order(self):
        self.assertEqual(victims(self.log(), [3]), [3, 0, 1, 5, 4])
        self.assertEqual(victims(self.log(), [5, 1]), [5, 1, 0, 3, 4])

    def test_head_comes_last_wherever_the_order_has_it(self):
        self.assertEqual(victims(self.log(), [4]), [0, 1, 3, 5, 4])
        self.assertEqual(victims(self.log(), [4, 3, 4, 1]), [3, 1, 0, 5, 4])

    def test_numbers_twice(self):
        self.assertEqual(victims(self.log(), [3, 1, 3, 3, 0, 1, 5]), [3, 1, 0, 5, 4])

    def test_numbers_that_are_no_segments_or_no_candidates(self):
        self.assertEqual(victims(self.log(), [7, 2, 5, 6, 65535, 1]), [5, 1, 0, 3, 4])

    def test_head_that_is_no_candidate(self):
        for lives in ([3, 9, 0, 1, 0, 17, 18], [3, 9, 0, 1, 18, 17, 18]):
            log = live_log(MIDDLE, lives, head=4, queue=[2])
            self.assertEqual(victims(log, [4, 5]), [5, 0, 1, 3])

    def test_head_alone(self):
        self.assertEqual(victims(live_log(LEAST, [0, 2, 15, 0], head=1), [2, 1]), [1])

    def test_no_candidates(self):
        self.assertEqual(victims(live_log(LEAST, [0, 15, 15, 0], head=1), [1, 2, 3]), [])

    def test_order_is_not_changed(self):
        order = [5, 4, 9]
        victims(self.log(), order)
        victims(self.log(), order).clear()
        self.assertEqual(order, [5, 4, 9])


class CargoTest(unittest.TestCase):
    def test_one_victim_after_another(self):
        log = live_log(LEAST, [2, 3, 0, 4], head=3, queue=[2])
        self.assertEqual(cargo(log, [1]), addresses_in(log, 1) + addresses_in(log, 0) + addresses_in(log, 3))
        self.assertEqual(cargo(log, []), addresses_in(log, 0) + addresses_in(log, 1) + addresses_in(log, 3))
        self.assertEqual(cargo(log, [3, 1])[0], address_at(LEAST, 1, 1))

    def test_just_payload_addresses(self):
        for layout in LAYOUTS:
            log = live_log(layout, [layout.payload - 4, 4], head=3, queue=[2])
            self.assertEqual(cargo(log, [1, 0]), addresses_in(log, 1) + addresses_in(log, 0))

    def test_cargo_is_cut_off(self):
        for layout in LAYOUTS:
            payload = layout.payload
            log = live_log(layout, [payload - 4, 5, payload - 1], head=2, queue=[3])
            self.assertEqual(cargo(log, [1]), addresses_in(log, 1) + addresses_in(log, 0)[:payload - 5])
            self.assertEqual(cargo(log, [0]), addresses_in(log, 0) + addresses_in(log, 1)[:4])

    def test_addresses_of_slots(self):
        log = live_log(LEAST, [2, 0, 0, 0], head=3, queue=[1])
        log.slots[1] = [0] * 46
        log.slots[1][9] = address_at(LEAST, 0, 0)
        log.slots[1][8] = address_at(LEAST, 2, 7)
        self.assertEqual(cargo(log, [2]), [address_at(LEAST, 2, 7)] + [address_at(LEAST, 0, at) for at in (0, 1, 2)])

    def test_empty_cargo(self):
        self.assertEqual(cargo(live_log(LEAST, [0, 15, 15, 0], queue=[3]), [1]), [])
        self.assertEqual(cargo(live_log(LEAST, [0, 0, 0, 0], queue=[3]), []), [])

    def test_nothing_is_changed(self):
        log = live_log(LEAST, [2, 3, 0, 4], head=3, queue=[2])
        before = whole_state(log)
        cargo(log, [1]).clear()
        victims(log, [1])
        self.assertEqual(whole_state(log), before)


class FillTest(unittest.TestCase):
    def test_filling(self):
        log = live_log(LEAST, [9, 5, 0, 3], sequences=[2, 3, 0, 4], head=3, queue=[2])
        moved = addresses_in(log, 1) + addresses_in(log, 0) + addresses_in(log, 3)[:1]
        contents = contents_of(log, log.present)
        self.assertIs(fill(log, [3, 1, 0]), True)
        self.assertEqual((log.head, log.place, log.queue), (2, 16, [0, 1]))
        self.assertEqual(log.device.read(address_at(LEAST, 2, 0)), (MOVE, 5, 0, tuple(moved)))
        self.assertEqual(contents_of(log, log.present), contents)
        self.assertEqual(live_counts(log), [0, 0, 15, 2])
        # A move of 16 blocks, and a checkpoint of 6 blocks with two barriers.
        self.assertEqual(log.counts.as_row(), (0, 0, 1, 16, 1, 6, 2))
        self.assertEqual((log.last_sequence, log.device.pending()), (6, 0))

    def test_first_segment_of_the_queue_is_filled(self):
        log = live_log(MIDDLE, [1, 2, 0, 0, 0, 0, 0], head=1, queue=[5, 2, 4])
        self.assertTrue(fill(log, []))
        self.assertEqual((log.head, log.place, log.queue), (5, 4, [2, 4, 0, 1, 3, 6]))

    def test_order_decides_what_is_moved(self):
        log = live_log(LEAST, [9, 9, 0, 0], head=3, queue=[2])
        self.assertTrue(fill(log, [1]))
        self.assertEqual(live_counts(log), [3, 0, 15, 0])

    def check_nothing_done(self, log, order):
        before = whole_state(log)
        self.assertIs(fill(log, order), False)
        self.assertEqual(whole_state(log), before)

    def test_empty_cargo(self):
        self.check_nothing_done(live_log(LEAST, [15, 15, 0, 0], queue=[3]), [0, 1])

    def test_no_free_segment(self):
        self.check_nothing_done(live_log(LEAST, [3, 9, 0, 0], queue=[]), [0, 1])

    def test_move_that_is_not_written(self):
        log = live_log(LEAST, [3, 9, 0, 0], head=1, queue=[3])
        log.device.write(address_at(LEAST, 0, 2), None)
        self.check_nothing_done(log, [0, 1])

    def test_move_behind_a_power_cut(self):
        log = live_log(LEAST, [3, 9, 0, 0], head=1, queue=[3])
        log.device.cut_after(2)
        sure = log.device.sure_blocks()
        self.assertTrue(fill(log, [0, 1]))
        self.assertEqual((log.device.was_cut(), log.device.pending()), (True, 2))
        self.assertEqual(log.device.sure_blocks(), sure)
        self.assertEqual((log.head, log.queue), (3, [0, 1, 2]))

    def test_order_is_not_kept(self):
        order = [1, 0, 77]
        fill(live_log(LEAST, [9, 9, 0, 0], head=3, queue=[2]), order)
        self.assertEqual(order, [1, 0, 77])

    def test_contents_of_slots_do_not_change(self):
        for seed in range(60):
            chance = random.Random(seed)
            layout = (LEAST, MIDDLE, GREATEST)[seed % 3]
            lives = [chance.randrange(6) for _ in range(layout.segments)]
            lives[1] = 0
            log = live_log(layout, lives, head=2, queue=[1])
            there = live_addresses(log)
            log.slots[seed % 2] = [0] + chance.sample(there + [0] * (layout.last_id - len(there)), layout.last_id)
            total = len(there)
            tables = [log.present, log.slots[seed % 2]]
            contents = [contents_of(log, table) for table in tables]
            wide = chance.sample(range(layout.segments + 3), 3)
            expected = bool(candidates(log))
            self.assertEqual(fill(log, wide), expected)
            tables = [log.present, log.slots[seed % 2]]
            self.assertEqual([contents_of(log, table) for table in tables], contents)
            self.assertEqual(len(live_addresses(log)), total)
            self.assertEqual(len(shown(log.device)), layout.device_blocks)


if __name__ == "__main__":
    unittest.main()
