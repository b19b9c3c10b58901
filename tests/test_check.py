"""Points 128, 134 and 135, and the order of the points 129 to 134: the checker as a whole."""

import itertools
import unittest

from helpers import LAYOUTS, LEAST, commit_block, data, part, run_example, shown
from segmentfs.checker.check import check
from segmentfs.device.block import DATA, MOVE, NODE, PART
from segmentfs.device.device import Device
from segmentfs.errors import InvalidImage
from segmentfs.geometry.layout import Layout, address_at
from segmentfs.log.checkpoints import write_checkpoint
from segmentfs.log.logs import append_commit, contents_of
from segmentfs.log.recovery import new_log
from segmentfs.names.changes import create, mkdir, unlink
from segmentfs.nodes.directories import add_entry, remove_entry
from segmentfs.nodes.inodes import FILE, Inode
from segmentfs.nodes.nodes import new_nodes, write_node
from segmentfs.nodes.superblock import Superblock, encode_superblock
from segmentfs.room.making import make_room
from segmentfs.volume.volume import mount, new_device


class Builder:
    """A log whose present contents are those of nodes, perhaps spoiled ones."""

    def __init__(self, layout=LEAST):
        self.log = new_log(Device(layout))
        self.nodes = new_nodes(layout)
        create(self.nodes, "/f")
        self.commit()

    def commit(self, action=0, blocks=None):
        """Write what the log does not hold yet; these nodes have few blocks."""
        blocks = self.nodes.store.blocks if blocks is None else blocks
        held = contents_of(self.log, self.log.present)
        ids = sorted(ident for ident in blocks if held.get(ident) != blocks[ident])
        assert make_room(self.log, len(ids))
        assert append_commit(self.log, ids, [blocks[ident] for ident in ids], sorted(blocks), action)

    def snapshot(self, slot, name, spoil=None):
        """Take a snapshot; its contents are spoiled, but not those of the present table behind it."""
        self.nodes.set_snapshot_name(slot, name)
        self.commit(1 + slot, self.spoiled(spoil))
        self.commit()

    def spoiled(self, spoil):
        if spoil is None:
            return self.nodes.store.blocks
        fork = self.nodes.fork()
        return spoil(fork) or fork.store.blocks

    def spoil(self, spoil):
        """Spoil the present contents."""
        self.commit(0, self.spoiled(spoil))

    def device(self):
        write_checkpoint(self.log)
        return self.log.device


def no_superblock(nodes):
    return {ident: payload for ident, payload in nodes.store.blocks.items() if ident != 1}


def unused_block(nodes):
    return {**nodes.store.blocks, 40: data(nodes.layout, 1)}


def wrong_count(nodes):
    nodes.put(2, Inode(FILE, 2))


def large_file(nodes):
    nodes.put(2, Inode(FILE, size=1048577))


class CheckCase(unittest.TestCase):
    def check(self, device, expected):
        before = (shown(device), device.pending())
        self.assertEqual(check(device), expected)
        self.assertEqual((shown(device), device.pending()), before)
        if expected is None:
            mount(device)
            return
        with self.assertRaises(InvalidImage) as caught:
            mount(device)
        error = caught.exception
        self.assertEqual((error.part, error.fault, error.number), expected)
        self.assertEqual((shown(device), device.pending()), before)


class LogFaultsTest(CheckCase):
    def test_example(self):
        run_example(self, """
>>> from segmentfs.geometry.layout import Layout
>>> from segmentfs.device.device import Device
>>> from segmentfs.checker.check import check
>>> check(Device(Layout(4, 16, 64)))
('log', 'no whole checkpoint', 0)
""")

    def test_sound_volumes(self):
        for layout in LAYOUTS + (Layout(4, 16, 256), Layout(16, 16, 128)):
            self.check(new_device(layout), None)
            self.check(Builder(layout).device(), None)

    def test_no_checkpoint(self):
        device = new_device(LEAST)
        for start in (0, 6):
            device.write(start + 3, None)
        self.check(device, ("log", "no whole checkpoint", 0))
        device = Device(LEAST)
        device.write(20, (DATA, 2 ** 40, 0, (0,) * 64))
        self.check(device, ("log", "no whole checkpoint", 0))

    def test_one_checkpoint_that_is_not_whole(self):
        for start in (0, 6):
            device = new_device(LEAST)
            device.write(start, None)
            self.check(device, None)

    def test_sequence_numbers(self):
        last = LEAST.device_blocks - 1
        for sequence, expected in ((2 ** 40 - 1, None), (2 ** 40, ("log", "sequence numbers are used up", 0)),
                                   (2 ** 48 - 1, ("log", "sequence numbers are used up", 0))):
            for block in ((DATA, sequence, 0, (0,) * 64), (NODE, sequence, 9, (1,) * 32),
                          (PART, sequence, 0, (0,) * 32), (MOVE, sequence, 0, ()), commit_block(sequence)):
                device = new_device(LEAST)
                device.write(last, block)
                self.check(device, expected)

    def test_sequence_numbers_ahead_of_the_tables(self):
        builder = Builder()
        builder.log.head = 4
        device = builder.device()
        self.check(device, ("log", "no such head", 4))
        device.write(LEAST.device_blocks - 1, part(LEAST, 2 ** 40))
        self.check(device, ("log", "sequence numbers are used up", 0))

    def test_tables(self):
        for change, expected in (
                (lambda log: setattr(log, "head", 9), ("no such head", 9)),
                (lambda log: setattr(log, "place", 17), ("no such place", 17)),
                (lambda log: setattr(log, "queue", [1, 2, 3, 4]), ("no such segment", 4)),
                (lambda log: setattr(log, "queue", [1, 2, 1]), ("a segment is free twice", 1)),
                (lambda log: log.present.__setitem__(30, 12), ("a live block is misplaced", 12)),
                (lambda log: log.present.__setitem__(30, log.present[1]), ("an address is used twice", 13))):
            builder = Builder()
            change(builder.log)
            self.check(builder.device(), ("log",) + expected)

    def test_two_snapshots_with_one_superblock(self):
        builder = Builder()
        builder.commit(1)
        builder.commit(2)
        address = builder.log.present[1]
        self.check(builder.device(), ("log", "two snapshots share a superblock", address))

    def test_needed_blocks(self):
        builder = Builder()
        device = builder.device()
        address = max(builder.log.present)
        device.write(address, None)
        self.check(device, ("log", "a needed block is no payload", address))
        builder = Builder()
        builder.spoil(lambda nodes: {**nodes.store.blocks, 9: (NODE, (46,) + (0,) * 31)})
        self.check(builder.device(), ("log", "a block does not fit the layout", builder.log.present[9]))
        builder = Builder()
        builder.spoil(lambda nodes: {**nodes.store.blocks, 9: (NODE, (45,) + (0,) * 31)})
        self.check(builder.device(), ("present", "block that nothing uses", 9))

    def test_batches_behind_the_checkpoint_count(self):
        builder = Builder()
        builder.device()
        builder.spoil(wrong_count)
        self.check(builder.log.device, ("present", "names are not counted right", 2))
        # A batch that is not whole does not.
        device = builder.log.device.left(range(builder.log.device.pending() - 1))
        self.check(device, None)


class PresentFaultsTest(CheckCase):
    def test_files_and_names(self):
        for spoil, fault, number in (
                (no_superblock, "no superblock", 1), (unused_block, "block that nothing uses", 40),
                (wrong_count, "names are not counted right", 2), (large_file, "a file is too large", 2),
                (lambda nodes: remove_entry(nodes, 1, "f"), "names are not counted right", 2),
                (lambda nodes: nodes.put(1, Inode(FILE)), "block that nothing uses", 3)):
            builder = Builder()
            builder.spoil(spoil)
            self.check(builder.device(), ("present", fault, number))

    def test_files_ahead_of_names(self):
        builder = Builder()
        builder.spoil(lambda nodes: (wrong_count(nodes), unused_block(nodes))[1])
        self.check(builder.device(), ("present", "block that nothing uses", 40))

    def test_log_ahead_of_files(self):
        builder = Builder()
        builder.spoil(no_superblock)
        builder.log.present[30] = 12
        self.check(builder.device(), ("log", "a live block is misplaced", 12))


class SnapshotFaultsTest(CheckCase):
    def test_sound_snapshots(self):
        for slots in itertools.chain(*[itertools.permutations((0, 1, 2), count) for count in (1, 2, 3)]):
            builder = Builder()
            for slot in slots:
                builder.snapshot(slot, f"n{slot}")
                mkdir(builder.nodes, f"/d{slot}")
                builder.commit()
            self.check(builder.device(), None)

    def test_file_without_names_in_a_snapshot(self):
        builder = Builder()
        unlink(builder.nodes, "/f", [2])
        builder.snapshot(1, "x")
        self.check(builder.device(), None)

    def test_slot_without_a_name(self):
        for slot in range(3):
            builder = Builder()
            builder.commit(1 + slot)
            self.check(builder.device(), ("snapshots", "a slot and its name do not agree", slot))

    def test_name_without_a_slot(self):
        for slot in range(3):
            builder = Builder()
            builder.nodes.set_snapshot_name(slot, "a")
            builder.commit()
            self.check(builder.device(), ("snapshots", "a slot and its name do not agree", slot))

    def test_first_slot_that_does_not_agree(self):
        builder = Builder()
        builder.snapshot(0, "a")
        builder.nodes.set_snapshot_name(2, "b")
        builder.commit(2)
        self.check(builder.device(), ("snapshots", "a slot and its name do not agree", 1))

    def test_two_names_alike(self):
        for first, second in ((0, 1), (0, 2), (1, 2)):
            builder = Builder()
            builder.snapshot(first, "a")
            builder.snapshot(second, "a")
            self.check(builder.device(), ("snapshots", "two slots have one name", second))
        builder = Builder()
        for slot, name in enumerate("bab"):
            builder.snapshot(slot, name)
        self.check(builder.device(), ("snapshots", "two slots have one name", 2))
        builder.snapshot(1, "b")
        self.check(builder.device(), ("snapshots", "two slots have one name", 1))

    def test_names_that_are_told_in_snapshots_are_not_asked(self):
        builder = Builder()
        builder.snapshot(0, "a")
        builder.nodes.set_snapshot_name(0, "b")
        builder.commit()
        self.check(builder.device(), None)

    def test_contents(self):
        for slot in range(3):
            for spoil, fault, number in (
                    (no_superblock, "no superblock", 1), (unused_block, "block that nothing uses", 40),
                    (wrong_count, "names are not counted right", 2), (large_file, "a file is too large", 2),
                    (lambda nodes: (wrong_count(nodes), unused_block(nodes))[1], "block that nothing uses", 40)):
                builder = Builder()
                builder.snapshot(slot, "a", spoil)
                self.check(builder.device(), (f"snapshot {slot}", fault, number))

    def test_several_at_once(self):
        builder = Builder()
        builder.snapshot(2, "a", wrong_count)
        builder.snapshot(1, "b", large_file)
        self.check(builder.device(), ("snapshot 1", "a file is too large", 2))
        builder.snapshot(0, "c")
        self.check(builder.device(), ("snapshot 1", "a file is too large", 2))
        builder.nodes.set_snapshot_name(2, "b")
        builder.commit()
        self.check(builder.device(), ("snapshots", "two slots have one name", 2))
        builder.nodes.set_snapshot_name(2, None)
        builder.commit()
        self.check(builder.device(), ("snapshots", "a slot and its name do not agree", 2))
        builder.spoil(wrong_count)
        self.check(builder.device(), ("present", "names are not counted right", 2))
        builder.spoil(unused_block)
        self.check(builder.device(), ("present", "block that nothing uses", 40))
        builder.log.present[30] = address_at(LEAST, 0, 0)
        self.check(builder.device(), ("log", "a live block is misplaced", 12))

    def test_names_agree_ahead_of_being_alike(self):
        builder = Builder()
        builder.snapshot(0, "a")
        builder.snapshot(1, "a")
        builder.nodes.set_snapshot_name(2, "x")
        builder.commit()
        self.check(builder.device(), ("snapshots", "a slot and its name do not agree", 2))


class AcceptedTest(CheckCase):
    def test_what_is_pending_counts(self):
        volume = mount(new_device(LEAST))
        handle = volume.create("/a")
        volume.write(handle, 0, [1] * 100)
        volume.unlink("/a")
        volume.begin()
        self.check(volume.crash([]), None)
        self.check(volume.crash(range(volume.pending())), None)
        volume.commit()
        self.check(volume.crash(range(volume.pending() - 1), torn=[volume.pending() - 1]), None)
        self.check(volume.unmount(), None)

    def test_spoiled_devices_have_faults_or_can_be_mounted(self):
        # Each block of a small volume is lost in turn.
        volume = mount(new_device(LEAST))
        volume.mkdir("/d")
        volume.snapshot("x")
        volume.create("/d/f")
        device = volume.unmount()
        faults = {}
        for address in range(LEAST.device_blocks):
            fork = device.fork()
            fork.write(address, None)
            fault = check(fork)
            faults[fault and fault[:2]] = True
            if fault is None:
                mount(fork)
        self.assertIn(("log", "a needed block is no payload"), faults)

    def test_superblock_of_the_present_contents(self):
        builder = Builder()
        blocks = dict(builder.nodes.store.blocks)
        known = builder.nodes.superblock
        blocks[1] = (DATA, encode_superblock(LEAST, Superblock(known.size, known.height, known.root, ["a", None, "b"])))
        builder.commit(0, blocks)
        self.check(builder.device(), ("snapshots", "a slot and its name do not agree", 0))

    def test_entries_are_checked_in_snapshots_too(self):
        builder = Builder()
        builder.snapshot(0, "a", lambda nodes: add_entry(nodes, 1, "f", 2))
        self.check(builder.device(), ("snapshot 0", "a name occurs twice", 1))
        builder = Builder()
        builder.snapshot(0, "a", lambda nodes: write_node(nodes, 1, 0, [9]))
        self.check(builder.device(), ("snapshot 0", "an entry leads nowhere", 1))


if __name__ == "__main__":
    unittest.main()
