"""Points 34 to 46 together: what a power failure leaves behind each command of a log."""

import itertools
import random
import unittest

from helpers import GREATEST, LEAST, MIDDLE, data
from segmentfs.device.device import Device
from segmentfs.log.checkpoints import write_checkpoint
from segmentfs.log.logs import append_commit, append_move, contents_of, sync_log
from segmentfs.log.recovery import mount_log, new_log, recover


def known(log):
    """Return what recovery finds again: tables, head, place and queue."""
    return (list(log.present), [slot and list(slot) for slot in log.slots], log.head, log.place, list(log.queue))


class Recorder:
    """Runs steps on a log and keeps, for each batch and checkpoint, its blocks and what the log knew behind it."""

    def __init__(self, log):
        self.log = log
        self.rows = []
        self.note(True)

    def note(self, is_checkpoint):
        device = self.log.device
        sequence = self.log.last_sequence
        blocks = {address: block for address, block in device.written_blocks() if block[1] == sequence}
        self.rows.append((is_checkpoint, blocks, known(self.log)))

    def run(self, step):
        sequence = self.log.last_sequence
        step(self.log)
        if self.log.last_sequence != sequence:
            self.note(step is write_checkpoint)

    def expected(self, device):
        """Return what the log of a device knows: that of the newest whole checkpoint and the whole batches behind."""
        whole = [all(device.read(address) == block for address, block in row[1].items()) for row in self.rows]
        at = max(place for place, row in enumerate(self.rows) if row[0] and whole[place])
        found = self.rows[at][2]
        for place in range(at + 1, len(self.rows)):
            if self.rows[place][0] or not whole[place]:
                break
            found = self.rows[place][2]
        return found


def commit(ids, fill, used, action=0):
    return lambda log: append_commit(log, ids, [data(log.layout, fill + ident) for ident in ids], used, action)


def move(*ids):
    return lambda log: append_move(log, [log.present[ident] for ident in ids])


STEPS = (
    commit([1, 2, 3], 10, [1, 2, 3]), sync_log, commit([2], 20, [1, 2, 3], 1), commit([], 0, [1, 2]),
    move(2, 1), commit([4, 5], 30, [1, 2, 4, 5], 2), write_checkpoint, commit([1], 40, [1, 4], 4), sync_log,
    move(4, 1), commit([7], 50, [1, 4, 7], 3), write_checkpoint, commit([1, 7], 60, [1, 7], 5), commit([7], 70, [7]),
)


def commands(log):
    """Return how many commands the steps make."""
    counts = log.counts
    return counts.blocks_written + counts.barriers


class PowerTest(unittest.TestCase):
    def test_each_command_of_some_steps(self):
        for layout in (LEAST, GREATEST):
            recorder = Recorder(new_log(Device(layout)))
            first = commands(recorder.log)
            for step in STEPS:
                recorder.run(step)
            total = commands(recorder.log) - first
            for count in range(total + 1):
                self.check_cut(recorder, layout, count, total)

    def check_cut(self, recorder, layout, count, total):
        log = new_log(Device(layout))
        log.device.cut_after(count)
        for step in STEPS:
            step(log)
        self.assertEqual(known(log), known(recorder.log))
        self.assertEqual(log.counts.as_row(), recorder.log.counts.as_row())
        self.assertEqual(log.device.was_cut(), count < total)
        for kept, torn in self.choices(log.device.pending(), count):
            self.check_left(recorder, log.device.left(kept, torn=torn))

    def choices(self, pending, seed):
        """Return some choices of writes that are kept and torn: all of them where there are few."""
        if pending <= 3:
            fates = list(itertools.product((0, 1, 2), repeat=pending))
        else:
            chance = random.Random(seed)
            fates = [(fate,) * pending for fate in (0, 1, 2)]
            fates += [(1,) * count + (fate,) * (pending - count) for count in range(pending) for fate in (0, 2)]
            fates += [(1,) * count + (fate,) + (1,) * (pending - count - 1) for count in range(pending)
                      for fate in (0, 2)]
            fates += [tuple(chance.choice((0, 1, 1, 2)) for _ in range(pending)) for _ in range(10)]
        for row in fates:
            yield ([place for place, fate in enumerate(row) if fate == 1],
                   [place for place, fate in enumerate(row) if fate == 2])

    def check_left(self, recorder, left):
        expected = recorder.expected(left)
        found = recover(left)
        self.assertEqual(known(found), expected)
        self.assertEqual(found.last_sequence, max(block[1] for _, block in left.written_blocks()))
        before = [contents_of(found, table) for table in [found.present] + found.slots if table]
        mounted = mount_log(left)
        self.assertEqual(known(mounted)[:4], expected[:4])
        self.assertEqual([contents_of(mounted, table) for table in [mounted.present] + mounted.slots if table], before)
        self.assertEqual(known(recover(left.left([]))), known(mounted))

    def test_cuts_within_mounting(self):
        log = new_log(Device(LEAST))
        append_commit(log, [1, 2], [data(LEAST, 1), data(LEAST, 2)], [1, 2], 1)
        append_commit(log, [2], [data(LEAST, 3)], [2], 0)
        whole = log.device.left([0, 1, 2, 3, 4])
        expected = recover(whole)
        for count in range(9):
            device = whole.fork()
            device.cut_after(count)
            self.assertEqual(known(mount_log(device))[:4], known(expected)[:4])
            pending = device.pending()
            for kept in range(pending + 1):
                left = device.left(list(range(kept)), torn=[kept])
                self.assertEqual(known(recover(left))[:4], known(expected)[:4])
                self.assertEqual(contents_of(recover(left), expected.present), {2: data(LEAST, 3)})

    def test_random_logs(self):
        for seed in range(40):
            self.check_random(random.Random(seed), (LEAST, MIDDLE)[seed % 2])

    def check_random(self, chance, layout):
        log = new_log(Device(layout))
        recorder = Recorder(log)
        for _ in range(chance.randrange(1, 25)):
            recorder.run(self.random_step(chance, log))
        pending = log.device.pending()
        for _ in range(12):
            kept = [number for number in range(pending) if chance.random() < 0.9]
            torn = [number for number in range(pending) if chance.random() < 0.03]
            self.check_left(recorder, log.device.left(kept, torn=torn))

    def random_step(self, chance, log):
        draw = chance.random()
        if draw < 0.15:
            return sync_log
        if draw < 0.25:
            return write_checkpoint
        there = [ident for ident, address in enumerate(log.present) if address]
        if draw < 0.35 and there:
            return move(*chance.sample(there, chance.randrange(1, min(6, len(there)) + 1)))
        ids = sorted(chance.sample(range(1, 12), chance.randrange(5)))
        used = sorted(set(ids) | set(ident for ident in there if chance.random() < 0.8))
        return commit(ids, chance.randrange(200), used, chance.choice((0, 0, 0, chance.randrange(7))))


if __name__ == "__main__":
    unittest.main()
