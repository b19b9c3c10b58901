"""Points 52 to 54: the need of a result."""

import random
import unittest

from helpers import GREATEST, LAYOUTS, LEAST, MIDDLE, commit_block, data, node, run_example, table_of, whole_state
from segmentfs.device.block import NODE
from segmentfs.device.device import Device
from segmentfs.log.checkpoints import write_checkpoint
from segmentfs.log.logs import Log, append_commit, append_move, contents_of, live_addresses, payload_at
from segmentfs.log.recovery import new_log
from segmentfs.room.need import need_of

EXAMPLE = """
>>> from segmentfs.geometry.layout import Layout
>>> from segmentfs.device.device import Device
>>> from segmentfs.log.logs import append_commit
>>> from segmentfs.log.recovery import new_log
>>> from segmentfs.room.need import need_of
>>> log = new_log(Device(Layout(4, 16, 64)))
>>> old = (3, (1,) * 64)
>>> new = (3, (2,) * 64)
>>> append_commit(log, [1, 2], [old, old], [1, 2], 1)
True
>>> need_of(log, {1: old})
2
>>> need_of(log, {1: new})
3
>>> need_of(log, {1: old}, through={1: new})
3
"""

OLD = data(LEAST, 1)
NEW = data(LEAST, 2)


def log_of(present, slots=(None, None, None), blocks=None, layout=LEAST):
    """Return a log with these tables, told by dicts, on a device with these blocks."""
    device = Device(layout)
    for address, block in (blocks or {}).items():
        device.write(address, block)
    log = Log(device)
    log.present = table_of(layout, present)
    log.slots = [None if slot is None else table_of(layout, slot) for slot in slots]
    return log


def block(payload, sequence=2, rank=1):
    return (payload[0], sequence, rank, payload[1])


def plain_need(log, blocks, through=None):
    """Return the need as the points 52 and 53 tell it, word by word."""
    staying = set()
    for ident in range(1, log.layout.last_id + 1):
        address = log.present[ident]
        if address != 0 and ident in blocks and payload_at(log, address) == blocks[ident]:
            if through is None or (ident in through and through[ident] == blocks[ident]):
                staying.add(address)
    in_slots = set()
    for slot in log.slots:
        in_slots |= set(slot or [])
    return len(blocks) + len(in_slots - {0} - staying)


def ids_to_write(log, blocks):
    """Return the ids of the result whose address is not staying, ascending."""
    present = contents_of(log, log.present)
    return [ident for ident in sorted(blocks) if present.get(ident) != blocks[ident]]


def commit_result(log, blocks):
    """Write the commit of point 54."""
    ids = ids_to_write(log, blocks)
    return append_commit(log, ids, [blocks[ident] for ident in ids], sorted(blocks), 0)


class NeedTest(unittest.TestCase):
    def test_example(self):
        run_example(self, EXAMPLE)

    def log(self):
        """Return a log in whose slot 0 there are the ids 1, 2 and 3 as in the present table."""
        log = new_log(Device(LEAST))
        append_commit(log, [1, 2, 3], [OLD, OLD, OLD], [1, 2, 3], 1)
        return log

    def test_without_snapshots_the_need_is_the_number_of_ids(self):
        for layout in LAYOUTS:
            log = new_log(Device(layout))
            old = data(layout, 1)
            self.assertEqual(need_of(log, {}), 0)
            append_commit(log, [1, 2], [old, old], [1, 2], 0)
            self.assertEqual(need_of(log, {}), 0)
            self.assertEqual(need_of(log, {1: old, 2: data(layout, 2), layout.last_id: old}), 3)
            self.assertEqual(need_of(log, {1: old}, through={1: data(layout, 2)}), 1)

    def test_result_that_is_the_present_one(self):
        self.assertEqual(need_of(self.log(), {1: OLD, 2: OLD, 3: OLD}), 3)

    def test_result_that_leaves_ids_out(self):
        self.assertEqual(need_of(self.log(), {1: OLD, 3: OLD}), 3)
        self.assertEqual(need_of(self.log(), {}), 3)

    def test_result_that_changes_ids(self):
        self.assertEqual(need_of(self.log(), {1: OLD, 2: NEW, 3: OLD}), 4)
        self.assertEqual(need_of(self.log(), {1: NEW, 2: NEW, 3: NEW}), 6)

    def test_result_that_adds_ids(self):
        self.assertEqual(need_of(self.log(), {1: OLD, 2: OLD, 3: OLD, 4: NEW, 45: OLD}), 5)
        self.assertEqual(need_of(self.log(), {9: OLD}), 4)

    def test_ids_that_no_table_has(self):
        self.assertEqual(need_of(self.log(), {1: OLD, 46: OLD, 65535: NEW}), 5)

    def test_payload_of_another_kind(self):
        log = log_of({1: 20}, ({1: 20}, None, None), {20: (NODE, 2, 1, (0,) * 32)})
        self.assertEqual(need_of(log, {1: (NODE, (0,) * 32)}), 1)
        self.assertEqual(need_of(log, {1: (3, (0,) * 32)}), 2)
        self.assertEqual(need_of(log, {1: node(LEAST, 1)}), 2)

    def test_payload_that_differs_in_one_octet(self):
        log = log_of({1: 20}, ({1: 20}, None, None), {20: block(OLD)})
        for place in (0, 63):
            body = list(OLD[1])
            body[place] += 1
            self.assertEqual(need_of(log, {1: (3, tuple(body))}), 2)

    def test_block_that_a_slot_shares_with_the_present_table(self):
        blocks = {20: block(OLD), 21: block(OLD), 22: block(OLD)}
        log = log_of({1: 20, 2: 21}, ({1: 20, 2: 22}, None, None), blocks)
        self.assertEqual(need_of(log, {1: OLD, 2: OLD}), 3)
        self.assertEqual(need_of(log, {1: NEW, 2: OLD}), 4)
        self.assertEqual(need_of(log, {1: OLD}), 2)

    def test_address_of_several_slots_counts_once(self):
        blocks = {address: block(OLD) for address in range(20, 26)}
        log = log_of({1: 20}, ({1: 20, 2: 21, 3: 22}, {1: 20, 2: 21, 3: 23}, {1: 24, 2: 21, 3: 22}), blocks)
        self.assertEqual(need_of(log, {1: OLD}), 5)
        self.assertEqual(need_of(log, {1: NEW}), 6)
        self.assertEqual(need_of(log, {}), 5)

    def test_slot_may_have_the_address_under_another_id(self):
        log = log_of({1: 20}, (None, {7: 20}, None), {20: block(OLD)})
        self.assertEqual(need_of(log, {1: OLD}), 1)
        self.assertEqual(need_of(log, {7: OLD}), 2)

    def test_address_stays_if_one_of_its_ids_stays(self):
        log = log_of({1: 20, 2: 20}, (None, None, {1: 20}), {20: block(OLD)})
        self.assertEqual(need_of(log, {1: OLD, 2: NEW}), 2)
        self.assertEqual(need_of(log, {2: OLD}), 1)
        self.assertEqual(need_of(log, {1: NEW, 2: NEW}), 3)

    def test_blocks_that_are_no_payload(self):
        log = log_of({1: 20, 2: 21, 3: 99}, ({1: 20, 2: 21, 3: 99}, None, None), {21: commit_block(3)})
        self.assertEqual(need_of(log, {}), 3)
        self.assertEqual(need_of(log, {1: OLD, 2: OLD}), 5)

    def test_address_0_never_counts(self):
        log = log_of({}, ({1: 20}, {}, None), {0: block(OLD), 20: block(OLD)})
        self.assertEqual(need_of(log, {}), 1)
        self.assertEqual(need_of(log, {1: OLD}), 2)

    def test_pending_blocks_are_read(self):
        log = self.log()
        self.assertEqual(log.device.pending(), 4)
        log.device.cut_after(0)
        self.assertEqual(need_of(log, {1: OLD}), 3)

    def test_nothing_is_changed(self):
        log = self.log()
        before = whole_state(log)
        blocks = {1: NEW, 5: OLD}
        through = {1: OLD}
        need_of(log, blocks)
        need_of(log, blocks, through=through)
        self.assertEqual((blocks, through), ({1: NEW, 5: OLD}, {1: OLD}))
        self.assertEqual(whole_state(log), before)


class NeedThroughTest(unittest.TestCase):
    def log(self):
        log = new_log(Device(LEAST))
        append_commit(log, [1, 2], [OLD, OLD], [1, 2], 2)
        return log

    def test_through_the_same(self):
        self.assertEqual(need_of(self.log(), {1: OLD, 2: OLD}, through={1: OLD, 2: OLD}), 2)
        self.assertEqual(need_of(self.log(), {1: OLD}, through={1: OLD, 2: NEW, 3: NEW}), 2)

    def test_through_leaves_an_id_out(self):
        self.assertEqual(need_of(self.log(), {1: OLD, 2: OLD}, through={1: OLD}), 3)
        self.assertEqual(need_of(self.log(), {1: OLD, 2: OLD}, through={}), 4)

    def test_through_changes_an_id(self):
        self.assertEqual(need_of(self.log(), {1: OLD, 2: OLD}, through={1: OLD, 2: NEW}), 3)
        self.assertEqual(need_of(self.log(), {1: NEW, 2: OLD}, through={1: NEW, 2: NEW}), 4)

    def test_through_has_the_result_already(self):
        self.assertEqual(need_of(self.log(), {1: NEW, 2: OLD}, through={1: NEW, 2: OLD}), 3)

    def test_empty_through_is_not_none(self):
        log = self.log()
        self.assertEqual(need_of(log, {1: OLD}, through={}), 3)
        self.assertEqual(need_of(log, {1: OLD}, through=None), 2)

    def test_without_snapshots(self):
        log = new_log(Device(LEAST))
        append_commit(log, [1], [OLD], [1], 0)
        self.assertEqual(need_of(log, {1: OLD}, through={}), 1)


class NeedIsWhatIsLiveTest(unittest.TestCase):
    """Point 54, and the plain words of the points 52 and 53, for random logs."""

    def test_random_logs(self):
        for seed in range(90):
            chance = random.Random(seed)
            layout = (LEAST, MIDDLE, GREATEST)[seed % 3]
            log = new_log(Device(layout))
            for _ in range(chance.randrange(12)):
                self.random_step(chance, log)
            for _ in range(6):
                self.check_result(chance, log)

    def random_step(self, chance, log):
        draw = chance.random()
        there = [address for address in log.present if address]
        if draw < 0.1:
            write_checkpoint(log)
        elif draw < 0.2 and there:
            append_move(log, chance.sample(there, min(len(there), 3)))
        else:
            blocks = self.random_result(chance, log)
            ids = ids_to_write(log, blocks)
            action = chance.choice((0, 0, 1, 2, 3, 4, 5, 6))
            append_commit(log, ids, [blocks[ident] for ident in ids], sorted(blocks), action)

    def random_result(self, chance, log):
        blocks = contents_of(log, log.present)
        for ident in chance.sample(range(1, 12), 4):
            draw = chance.random()
            if draw < 0.3:
                blocks.pop(ident, None)
            elif draw < 0.9:
                blocks[ident] = data(log.layout, chance.randrange(4))
            else:
                blocks[ident] = node(log.layout, chance.randrange(4))
        return blocks

    def check_result(self, chance, log):
        blocks = self.random_result(chance, log)
        through = self.random_result(chance, log)
        need = need_of(log, blocks)
        self.assertEqual(need, plain_need(log, blocks))
        twin = log.fork()
        if commit_result(twin, blocks):
            self.assertEqual(need, len(live_addresses(twin)))
        need = need_of(log, blocks, through=through)
        self.assertEqual(need, plain_need(log, blocks, through))
        twin = log.fork()
        if commit_result(twin, through) and commit_result(twin, blocks):
            self.assertEqual(need, len(live_addresses(twin)))


if __name__ == "__main__":
    unittest.main()
