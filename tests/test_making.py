"""Points 60 to 62: room for a commit, making room, and cleaning."""

import unittest

from helpers import LAYOUTS, LEAST, MIDDLE, data, live_log, whole_state
from segmentfs.device.block import MOVE
from segmentfs.device.device import Device
from segmentfs.geometry.layout import address_at, segment_of
from segmentfs.log.checkpoints import write_checkpoint
from segmentfs.log.logs import append_commit, contents_of
from segmentfs.log.recovery import new_log
from segmentfs.room.filling import cargo, fill, victims
from segmentfs.room.making import clean_log, has_room, make_room
from segmentfs.room.policies import POLICIES, order_candidates
from segmentfs.room.segments import candidates, live_counts


def worked_log():
    """Return the log of the worked example."""
    return live_log(LEAST, [9, 5, 0, 3], head=3, queue=[2])


class WorkedExampleTest(unittest.TestCase):
    def test_worked_example(self):
        log = worked_log()
        self.assertEqual(LEAST.payload, 15)
        self.assertFalse(has_room(log, 4))
        self.assertEqual(candidates(log), [0, 1, 3])
        order = order_candidates(log, "greedy")
        self.assertEqual(order, [3, 1, 0])
        self.assertEqual(victims(log, order), [1, 0, 3])
        moved = cargo(log, order)
        segments = [segment_of(LEAST, address) for address in moved]
        self.assertEqual(segments, [1] * 5 + [0] * 9 + [3])
        self.assertEqual(moved[14], address_at(LEAST, 3, 1))
        self.assertTrue(make_room(log, 4))
        self.assertEqual(log.device.read(address_at(LEAST, 2, 0)), (MOVE, 7, 0, tuple(moved)))
        self.assertEqual((log.head, log.place, log.queue), (2, 16, [0, 1]))
        self.assertTrue(has_room(log, 4))
        # The first checkpoint frees nothing, the second one ends the filling.
        self.assertEqual(log.counts.as_row(), (0, 0, 1, 16, 2, 12, 4))


class HasRoomTest(unittest.TestCase):
    def test_fits_behind_the_place(self):
        for layout in LAYOUTS:
            for count in (0, 1, layout.payload):
                most = layout.segment_blocks - 1 - count
                self.assertTrue(has_room(live_log(layout, [1, 1, 1, 1], place=most), count))
                self.assertFalse(has_room(live_log(layout, [1, 1, 1, 1], place=most + 1), count))

    def test_two_free_segments(self):
        for layout in LAYOUTS:
            for count in (0, 1, layout.payload):
                self.assertTrue(has_room(live_log(layout, [1, 0, 0, 1], queue=[1, 2]), count))
                self.assertFalse(has_room(live_log(layout, [1, 0, 0, 1], queue=[1]), count))

    def test_one_free_segment_and_a_head_without_live_blocks(self):
        for layout in LAYOUTS:
            for count in (0, 1, layout.payload):
                self.assertTrue(has_room(live_log(layout, [3, 0, 4, 0], head=1, queue=[3]), count))
                self.assertFalse(has_room(live_log(layout, [3, 1, 4, 0], head=1, queue=[3]), count))
                self.assertFalse(has_room(live_log(layout, [3, 0, 4, 0], head=1, queue=[]), count))

    def test_full_head_without_free_segments(self):
        self.assertFalse(has_room(live_log(LEAST, [15, 0, 0, 0]), 0))

    def test_segments_without_live_blocks_are_not_free(self):
        self.assertFalse(has_room(live_log(LEAST, [3, 0, 0, 0], queue=[2]), 1))

    def test_value(self):
        self.assertIs(has_room(live_log(LEAST, [3, 0, 0, 0], place=0), 3), True)
        self.assertIs(has_room(live_log(LEAST, [0, 1, 0, 0], queue=[2]), 3), True)
        self.assertIs(has_room(live_log(LEAST, [3, 0, 0, 0], queue=[2]), 3), False)
        self.assertIs(has_room(live_log(LEAST, [3, 0, 0, 0], queue=[]), 3), False)

    def test_nothing_is_changed(self):
        log = worked_log()
        before = whole_state(log)
        has_room(log, 4)
        has_room(log, 0)
        self.assertEqual(whole_state(log), before)


class MakeRoomTest(unittest.TestCase):
    def test_nothing_is_done_if_there_is_room(self):
        for log in (live_log(LEAST, [5, 5, 5, 5], place=13), live_log(LEAST, [5, 5, 0, 0], queue=[2, 3]),
                    live_log(LEAST, [0, 5, 5, 0], queue=[3])):
            before = whole_state(log)
            self.assertIs(make_room(log, 2), True)
            self.assertEqual(whole_state(log), before)

    def test_checkpoint_is_enough(self):
        for policy in POLICIES:
            log = live_log(LEAST, [5, 5, 0, 0], queue=[3])
            self.assertIs(make_room(log, 2, policy=policy), True)
            self.assertEqual((log.head, log.place, log.queue), (0, 16, [3, 2]))
            self.assertEqual(log.counts.as_row(), (0, 0, 0, 0, 1, 6, 2))

    def test_as_many_fillings_as_needed(self):
        # Each filling uses the free segment and frees one or two others.
        log = live_log(MIDDLE, [0, 12, 12, 12, 12, 12, 12], sequences=[0, 1, 2, 3, 4, 5, 6], head=6, queue=[0])
        self.assertTrue(make_room(log, 18, policy="oldest"))
        self.assertEqual(log.counts.moves, 2)
        self.assertEqual(log.counts.checkpoints, 3)
        self.assertEqual(live_counts(log), [18, 18, 0, 0, 12, 12, 12])
        self.assertEqual((log.head, log.queue), (1, [2, 3]))

    def test_policies_choose_other_victims(self):
        heads = {}
        for policy in POLICIES:
            log = live_log(MIDDLE, [0, 3, 9, 9, 5, 8, 17], sequences=[0, 9, 2, 1, 9, 5, 9], head=6, queue=[0])
            log.last_sequence = 20
            order = order_candidates(log, policy)
            twin = log.fork()
            write_checkpoint(twin)
            fill(twin, order)
            self.assertTrue(make_room(log, 18, policy=policy))
            self.assertEqual((log.counts.moves, live_counts(log)), (1, live_counts(twin)))
            heads[policy] = live_counts(log)
        self.assertEqual(heads["greedy"], [18, 0, 7, 9, 0, 0, 17])
        self.assertEqual(heads["oldest"], [18, 3, 0, 0, 5, 8, 17])
        self.assertEqual(len(set(map(tuple, heads.values()))), 3)

    def test_greedy_is_the_policy_if_none_is_told(self):
        log = live_log(MIDDLE, [0, 3, 9, 9, 5, 8, 17], sequences=[0, 9, 2, 1, 9, 5, 9], head=6, queue=[0])
        self.assertTrue(make_room(log, 18))
        self.assertEqual(live_counts(log), [18, 0, 7, 9, 0, 0, 17])

    def test_order_is_found_anew_for_each_filling(self):
        # Behind the first filling the head has the fewest live blocks, and the second one takes other segments.
        log = live_log(MIDDLE, [0, 15, 15, 15, 15, 15, 15], head=6, queue=[0])
        twin = log.fork()
        write_checkpoint(twin)
        while not has_room(twin, 18):
            self.assertTrue(fill(twin, order_candidates(twin, "greedy")))
        self.assertTrue(make_room(log, 18))
        self.assertEqual(whole_state(log), whole_state(twin))
        self.assertGreaterEqual(log.counts.moves, 2)

    def test_filling_that_does_nothing_ends_it(self):
        log = live_log(LEAST, [15, 15, 15, 0], head=2, queue=[3])
        self.assertIs(make_room(log, 1), False)
        self.assertEqual(log.counts.as_row(), (0, 0, 0, 0, 1, 6, 2))
        log = live_log(LEAST, [9, 9, 9, 9], head=2)
        self.assertIs(make_room(log, 15), False)
        self.assertEqual(log.counts.as_row(), (0, 0, 0, 0, 1, 6, 2))

    def test_as_many_fillings_as_there_are_segments_end_it(self):
        # With more live blocks than `limit` no filling helps: each one moves the blocks of the head alone.
        log = live_log(LEAST, [15, 15, 5, 0], head=2, queue=[3])
        self.assertIs(make_room(log, 15), False)
        self.assertEqual((log.counts.moves, log.counts.checkpoints), (4, 5))
        self.assertEqual(log.head, 2)

    def test_room_by_a_filling_of_a_short_head(self):
        log = live_log(LEAST, [15, 15, 5, 0], head=2, queue=[3])
        self.assertIs(make_room(log, 10), False)
        self.assertEqual(log.counts.moves, 4)
        log = live_log(LEAST, [15, 15, 5, 0], head=2, queue=[3])
        self.assertIs(make_room(log, 9), True)
        self.assertEqual((log.counts.moves, log.head, log.place), (1, 3, 6))

    def test_new_log_has_room(self):
        for layout in LAYOUTS:
            log = new_log(Device(layout))
            self.assertTrue(make_room(log, layout.payload))
            self.assertEqual(log.counts.checkpoints, 1)


class CleanLogTest(unittest.TestCase):
    def test_no_passes(self):
        log = live_log(LEAST, [9, 5, 0, 3], head=3, queue=[])
        self.assertEqual(clean_log(log, 0), 1)
        self.assertEqual(log.counts.as_row(), (0, 0, 0, 0, 1, 6, 2))
        self.assertEqual(log.queue, [2])

    def test_one_pass(self):
        log = live_log(MIDDLE, [0, 6, 6, 6, 6, 6, 6], head=6, queue=[0])
        self.assertEqual(clean_log(log, 1), 3)
        self.assertEqual(live_counts(log), [18, 0, 0, 0, 6, 6, 6])
        self.assertEqual(log.counts.as_row()[2:5], (1, 19, 2))

    def test_passes_end_with_fewer_than_two_candidates(self):
        for passes in (2, 3, 64):
            log = live_log(MIDDLE, [0, 6, 6, 6, 6, 6, 6], head=6, queue=[0])
            self.assertEqual(clean_log(log, passes), 5)
            self.assertEqual(live_counts(log), [18, 18, 0, 0, 0, 0, 0])
            self.assertEqual(log.counts.moves, 2)

    def test_two_candidates_are_enough(self):
        log = live_log(LEAST, [15, 3, 4, 0], head=0, queue=[3])
        self.assertEqual(clean_log(log, 5), 2)
        self.assertEqual((live_counts(log), log.counts.moves), ([15, 0, 0, 7], 1))

    def test_one_candidate(self):
        for lives in ([0, 15, 3, 0], [3, 15, 0, 0], [0, 15, 15, 0]):
            log = live_log(LEAST, lives, head=0, queue=[3])
            free = 2 if lives[2] == 0 else 1
            self.assertEqual(clean_log(log, 5), free)
            self.assertEqual(log.counts.as_row()[2:5], (0, 0, 1))

    def test_no_free_segment(self):
        log = live_log(LEAST, [3, 4, 5, 6])
        self.assertEqual(clean_log(log, 5), 0)
        self.assertEqual(log.counts.as_row()[2:5], (0, 0, 1))

    def test_segment_that_the_checkpoint_frees_is_used(self):
        log = live_log(LEAST, [3, 4, 5, 0], head=0, queue=[])
        self.assertEqual(clean_log(log, 5), 3)
        self.assertEqual(live_counts(log), [0, 0, 0, 12])

    def test_policies(self):
        rows = {}
        for policy in POLICIES:
            log = live_log(MIDDLE, [0, 3, 9, 9, 5, 8, 17], sequences=[0, 9, 2, 1, 9, 5, 9], head=6, queue=[0])
            log.last_sequence = 20
            clean_log(log, 1, policy=policy)
            rows[policy] = live_counts(log)
        self.assertEqual(rows["greedy"], [18, 0, 7, 9, 0, 0, 17])
        self.assertEqual(rows["oldest"], [18, 3, 0, 0, 5, 8, 17])
        self.assertEqual(len(set(map(tuple, rows.values()))), 3)
        log = live_log(MIDDLE, [0, 3, 9, 9, 5, 8, 17], sequences=[0, 9, 2, 1, 9, 5, 9], head=6, queue=[0])
        clean_log(log, 1)
        self.assertEqual(live_counts(log), rows["greedy"])

    def test_contents_stay(self):
        for policy in POLICIES:
            for passes in range(6):
                log = live_log(MIDDLE, [0, 3, 9, 9, 5, 8, 17], head=6, queue=[0])
                contents = contents_of(log, log.present)
                self.assertEqual(clean_log(log, passes, policy=policy), len(log.queue))
                self.assertEqual(contents_of(log, log.present), contents)

    def test_cleaning_a_new_log(self):
        for layout in LAYOUTS:
            log = new_log(Device(layout))
            self.assertEqual(clean_log(log, 64), layout.segments - 1)
            append_commit(log, [1], [data(layout, 1)], [1], 0)
            self.assertEqual(clean_log(log, 64), layout.segments - 1)
            self.assertEqual((log.head, log.place, log.counts.moves), (0, 2, 0))


if __name__ == "__main__":
    unittest.main()
