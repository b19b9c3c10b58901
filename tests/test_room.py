"""Points 64 and 65: what is guaranteed for logs that are nearly full, again and again."""

import random
import unittest

from helpers import LEAST, MIDDLE, Layout, data, node
from segmentfs.checker.tables import block_fault, table_fault
from segmentfs.device.device import Device
from segmentfs.log.checkpoints import write_checkpoint
from segmentfs.log.logs import append_commit, contents_of, live_addresses, sync_log
from segmentfs.log.recovery import mount_log, new_log
from segmentfs.room.filling import fill
from segmentfs.room.making import clean_log, has_room, make_room
from segmentfs.room.need import need_of
from segmentfs.room.policies import POLICIES
from segmentfs.room.segments import candidates

WIDE = Layout(5, 32, 256)
SIZES = (LEAST, MIDDLE, WIDE)


def all_contents(log):
    return [None if table is None else contents_of(log, table) for table in [log.present] + log.slots]


class Writer:
    """Keeps a log nearly full, and checks what is guaranteed at each step."""

    def __init__(self, test, chance, layout, policy):
        self.test = test
        self.chance = chance
        self.layout = layout
        self.policy = policy
        self.log = new_log(Device(layout))
        self.fills = 0

    def result(self):
        """Return a result that changes, adds or leaves out some ids."""
        blocks = contents_of(self.log, self.log.present)
        if self.chance.random() < 0.15:
            for ident in self.chance.sample(sorted(blocks), len(blocks) // 2):
                del blocks[ident]
        free = [ident for ident in range(1, self.layout.last_id + 1) if ident not in blocks]
        many = self.chance.randrange(self.layout.payload + 1)
        ids = self.chance.sample(sorted(blocks), min(len(blocks), many // 2))
        ids += self.chance.sample(free, min(len(free), many - len(ids)))
        for ident in ids:
            fill_with = self.chance.randrange(256)
            blocks[ident] = data(self.layout, fill_with) if fill_with % 9 else node(self.layout, 1 + fill_with % 40)
        return blocks

    def commit(self):
        """Make room for a commit as point 64 tells it, and write it, if its result is within the limit."""
        log = self.log
        blocks = self.result()
        action = self.chance.choice((0,) * 12 + (1, 2, 3, 4, 5, 6))
        before = contents_of(log, log.present)
        ids = [ident for ident in sorted(blocks) if before.get(ident) != blocks[ident]]
        while len(ids) > self.layout.payload or need_of(log, blocks) > self.layout.limit:
            if not blocks:
                return
            del blocks[self.chance.choice(ids if len(ids) > self.layout.payload else sorted(blocks))]
            ids = [ident for ident in ids if ident in blocks]
        need = need_of(log, blocks)
        contents = all_contents(log)
        self.make_room(len(ids))
        self.test.assertTrue(has_room(log, len(ids)))
        self.test.assertEqual((need_of(log, blocks), all_contents(log)), (need, contents))
        written = append_commit(log, ids, [blocks[ident] for ident in ids], sorted(blocks), action)
        self.test.assertTrue(written)
        if action == 0:
            self.test.assertEqual(len(live_addresses(log)), need)
        self.test.assertLessEqual(len(live_addresses(log)), self.layout.limit)
        self.test.assertEqual(contents_of(log, log.present), dict(sorted(blocks.items())))

    def make_room(self, count):
        if self.policy is not None:
            self.test.assertTrue(make_room(self.log, count, policy=self.policy))
            return
        if not has_room(self.log, count):
            write_checkpoint(self.log)
        fillings = 0
        while not has_room(self.log, count):
            fillings += 1
            self.test.assertLessEqual(fillings, self.layout.segments)
            self.test.assertTrue(self.checked_fill())

    def checked_fill(self):
        """Fill with any order, and check point 65."""
        log = self.log
        order = [self.chance.randrange(self.layout.segments + 2) for _ in range(self.chance.randrange(9))]
        former = len(candidates(log))
        free = len(log.queue)
        live = len(live_addresses(log))
        contents = all_contents(log)
        done = fill(log, order)
        self.fills += 1
        self.test.assertEqual(all_contents(log), contents)
        self.test.assertEqual(len(live_addresses(log)), live)
        self.test.assertEqual(done, free > 0 and former > 0)
        if free > 0 and former > 1:
            self.test.assertLess(len(candidates(log)), former)
            self.test.assertGreater(len(log.queue), 0)
        return done

    def clean(self):
        log = self.log
        contents = all_contents(log)
        policy = self.chance.choice(POLICIES)
        self.test.assertEqual(clean_log(log, self.chance.randrange(4), policy=policy), len(log.queue))
        self.test.assertEqual(all_contents(log), contents)

    def crash(self):
        """Mount what a power cut leaves, perhaps with another cut within mounting."""
        device = self.log.device
        pending = device.pending()
        kept = [number for number in range(pending) if self.chance.random() < 0.8]
        torn = [number for number in range(pending) if self.chance.random() < 0.1]
        left = device.left(kept, torn=torn)
        if self.chance.random() < 0.5:
            left.cut_after(self.chance.randrange(self.layout.region_blocks + 3))
            mounted = mount_log(left)
            if left.was_cut():
                pending = left.pending()
                kept = self.chance.sample(range(pending), self.chance.randrange(pending + 1))
                mounted = mount_log(left.left(kept))
        else:
            mounted = mount_log(left)
        self.log = mounted

    def step(self):
        draw = self.chance.random()
        if draw < 0.8:
            self.commit()
        elif draw < 0.86:
            sync_log(self.log)
        elif draw < 0.9:
            write_checkpoint(self.log)
        elif draw < 0.94:
            self.clean()
        elif draw < 0.96:
            write_checkpoint(self.log)
            self.checked_fill()
        else:
            if self.chance.random() < 0.5:
                self.cut_within_the_next_steps()
            self.crash()
        self.test.assertIsNone(block_fault(self.log))

    def cut_within_the_next_steps(self):
        """Go on until a power cut has come, so that it falls also into making room."""
        self.log.device.cut_after(self.chance.randrange(120))
        for _ in range(12):
            self.commit()


class GuaranteeTest(unittest.TestCase):
    def check(self, seed, policy, steps):
        chance = random.Random(seed)
        writer = Writer(self, chance, SIZES[seed % 3], policy)
        for _ in range(steps):
            writer.step()
        return writer

    def test_policies(self):
        for policy in POLICIES:
            for seed in range(18):
                self.check(seed, policy, 70)

    def test_any_orders(self):
        total = 0
        for seed in range(30):
            total += self.check(1000 + seed, None, 70).fills
        self.assertGreater(total, 100)

    def test_room_must_be_made_again_and_again(self):
        for policy in POLICIES:
            for layout in SIZES:
                writer = Writer(self, random.Random(7), layout, policy)
                for _ in range(120):
                    writer.commit()
                self.assertGreater(writer.log.counts.moves, 15)
                self.assertIsNone(table_fault(writer.log))

    def test_full_log_whose_blocks_all_change(self):
        for policy in POLICIES:
            for layout in SIZES:
                self.check_overwriting(policy, layout)

    def check_overwriting(self, policy, layout):
        """Overwrite blocks of a log that has just `limit` live blocks, so that each segment must be cleaned."""
        log = new_log(Device(layout))
        chance = random.Random(3)
        ids = list(range(1, layout.limit + 1))
        expected = {}
        for number in range(150):
            some = sorted(chance.sample(ids, layout.payload)) if len(expected) == len(ids) else ids[
                len(expected):len(expected) + layout.payload]
            for ident in some:
                expected[ident] = data(layout, (number + ident) % 256)
            self.assertTrue(make_room(log, len(some), policy=policy))
            self.assertTrue(append_commit(log, some, [expected[ident] for ident in some], sorted(expected), 0))
            self.assertIsNone(table_fault(log))
        self.assertEqual(len(live_addresses(log)), layout.limit)
        self.assertEqual(contents_of(log, log.present), expected)
        self.assertEqual(contents_of(mount_log(log.device.left(range(log.device.pending()))), log.present), expected)

    def test_need_does_not_change_by_quiet_steps(self):
        for seed in range(12):
            chance = random.Random(seed)
            writer = Writer(self, chance, SIZES[seed % 3], "greedy")
            for _ in range(30):
                writer.step()
            log = writer.log
            results = [writer.result() for _ in range(4)]
            through = writer.result()
            before = [(need_of(log, blocks), need_of(log, blocks, through=through)) for blocks in results]
            for quiet in (sync_log, write_checkpoint, lambda log: fill(log, [2, 1]), lambda log: clean_log(log, 2)):
                quiet(log)
                after = [(need_of(log, blocks), need_of(log, blocks, through=through)) for blocks in results]
                self.assertEqual(after, before)


if __name__ == "__main__":
    unittest.main()
