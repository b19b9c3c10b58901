"""Point 47: the counts of a log."""

import unittest

from helpers import GREATEST, LEAST, data
from segmentfs.device.device import Device
from segmentfs.log.checkpoints import write_checkpoint
from segmentfs.log.counts import Counts
from segmentfs.log.logs import Log, append_commit, append_move, sync_log
from segmentfs.log.recovery import mount_log, new_log, recover

FIELDS = ("commits", "commit_blocks", "moves", "move_blocks", "checkpoints", "checkpoint_blocks", "barriers")


class CountsTest(unittest.TestCase):
    def test_all_are_0_at_first(self):
        counts = Counts()
        self.assertEqual([getattr(counts, name) for name in FIELDS], [0] * 7)
        self.assertEqual(counts.as_row(), (0,) * 7)
        self.assertEqual((counts.blocks_written, counts.blocks_wanted), (0, 0))

    def some_counts(self):
        counts = Counts()
        for place, name in enumerate(FIELDS):
            setattr(counts, name, 10 ** place)
        return counts

    def test_row_is_in_the_order_of_the_fields(self):
        self.assertEqual(self.some_counts().as_row(), (1, 10, 100, 1000, 10000, 100000, 1000000))

    def test_written_and_wanted(self):
        counts = self.some_counts()
        self.assertEqual(counts.blocks_written, 101010)
        self.assertEqual(counts.blocks_wanted, 9)

    def test_forks_do_not_change_each_other(self):
        counts = self.some_counts()
        twin = counts.fork()
        self.assertIsInstance(twin, Counts)
        self.assertEqual(twin.as_row(), counts.as_row())
        for name in FIELDS:
            setattr(twin, name, 7)
        self.assertEqual(counts.as_row(), self.some_counts().as_row())
        self.assertEqual(twin.as_row(), (7,) * 7)


class CountsOfLogsTest(unittest.TestCase):
    def commit(self, log, *ids):
        return append_commit(log, list(ids), [data(log.layout, 1)] * len(ids), list(ids), 0)

    def test_log_without_checkpoint(self):
        self.assertEqual(Log(Device(LEAST)).counts.as_row(), (0,) * 7)

    def test_new_log_begins_with_one_checkpoint(self):
        self.assertEqual(new_log(Device(LEAST)).counts.as_row(), (0, 0, 0, 0, 1, 6, 2))
        self.assertEqual(new_log(Device(GREATEST)).counts.as_row(), (0, 0, 0, 0, 1, 15, 2))

    def test_counts_behind_each_step(self):
        log = new_log(Device(LEAST))
        self.commit(log, 1, 2, 3)
        self.assertEqual(log.counts.as_row(), (1, 4, 0, 0, 1, 6, 2))
        self.commit(log)
        self.assertEqual(log.counts.as_row(), (2, 5, 0, 0, 1, 6, 2))
        sync_log(log)
        self.assertEqual(log.counts.as_row(), (2, 5, 0, 0, 1, 6, 3))
        write_checkpoint(log)
        self.assertEqual(log.counts.as_row(), (2, 5, 0, 0, 2, 12, 5))
        append_move(log, [13, 15])
        self.assertEqual(log.counts.as_row(), (2, 5, 1, 3, 2, 12, 5))
        append_move(log, [])
        self.assertEqual(log.counts.as_row(), (2, 5, 2, 4, 2, 12, 5))
        self.assertEqual((log.counts.blocks_written, log.counts.blocks_wanted), (21, 3))

    def test_batches_that_were_not_written_count_nothing(self):
        log = new_log(Device(LEAST))
        self.assertIs(append_move(log, [14]), False)
        log.queue = []
        self.assertIs(append_move(log, []), False)
        log.place = 10
        self.assertIs(self.commit(log, 1, 2, 3, 4, 5, 6), False)
        self.assertEqual(log.counts.as_row(), (0, 0, 0, 0, 1, 6, 2))

    def test_commands_behind_a_power_cut_count_too(self):
        log = new_log(Device(LEAST))
        log.device.cut_after(0)
        self.commit(log, 1, 2)
        sync_log(log)
        append_move(log, [13])
        write_checkpoint(log)
        self.assertIs(log.device.was_cut(), True)
        self.assertEqual(log.counts.as_row(), (1, 3, 1, 2, 2, 12, 5))

    def test_recovered_log_begins_with_zeros(self):
        log = new_log(Device(LEAST))
        self.commit(log, 1, 2)
        self.assertEqual(recover(log.device).counts.as_row(), (0,) * 7)

    def test_mounted_log_begins_with_one_checkpoint(self):
        log = new_log(Device(LEAST))
        self.commit(log, 1, 2)
        self.assertEqual(mount_log(log.device.fork()).counts.as_row(), (0, 0, 0, 0, 1, 6, 2))

    def test_counts_of_a_fork(self):
        log = new_log(Device(LEAST))
        self.commit(log, 1, 2)
        twin = log.fork()
        self.commit(twin, 1)
        sync_log(log)
        self.assertEqual(log.counts.as_row(), (1, 3, 0, 0, 1, 6, 3))
        self.assertEqual(twin.counts.as_row(), (2, 5, 0, 0, 1, 6, 2))


if __name__ == "__main__":
    unittest.main()
