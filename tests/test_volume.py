"""Points 112 to 127: volumes, call by call."""

import unittest

from helpers import GREAT, LAYOUTS, LEAST, MIDDLE, run_example, shown
from segmentfs import errors
from segmentfs.checker.check import check
from segmentfs.device.block import PART
from segmentfs.device.device import Device
from segmentfs.geometry.layout import Layout
from segmentfs.log.logs import contents_of
from segmentfs.log.recovery import recover
from segmentfs.nodes.nodes import Nodes, new_nodes
from segmentfs.room.making import clean_log
from segmentfs.room.segments import segment_rows
from segmentfs.volume.volume import Volume, mount, new_device
from test_changes import UNREADABLE
from volumepair import FIELDS, fields

BAD_HANDLES = (-1, 16, 5, 100, GREAT, -GREAT)


def new_volume(layout=LEAST):
    return mount(new_device(layout))


class VolumeCase(unittest.TestCase):
    def refused(self, error, call, *args, **keywords):
        with self.assertRaises(errors.SegmentError, msg=(args, keywords)) as caught:
            call(*args, **keywords)
        self.assertIs(type(caught.exception), error, (args, keywords))


class ExampleTest(unittest.TestCase):
    def test_example(self):
        run_example(self, """
>>> from segmentfs.geometry.layout import Layout
>>> from segmentfs.volume.volume import mount, new_device
>>> volume = mount(new_device(Layout(4, 16, 64)))
>>> volume.mkdir("/log")
>>> handle = volume.create("/log/a")
>>> volume.write(handle, 100, [1, 2, 3])
3
>>> volume.next_data(handle, 0)
64
>>> volume.sync()
>>> volume.rename("/log/a", "/b")
>>> volume.snapshot("monday")
>>> again = mount(volume.crash([]))
>>> again.listdir("/log")
[('a', 3)]
>>> again.snapshots()
[]
""")


class NewDeviceTest(unittest.TestCase):
    def test_new_device(self):
        for layout in LAYOUTS:
            device = new_device(layout)
            self.assertIsNone(check(device))
            self.assertEqual((device.pending(), device.was_cut()), (0, False))
            log = recover(device)
            self.assertEqual(contents_of(log, log.present), new_nodes(layout).store.blocks)
            self.assertEqual((log.slots, log.head, log.place, log.last_sequence, log.region), ([None] * 3, 0, 3, 3, 1))
            self.assertEqual(log.queue, list(range(1, layout.segments)))
            self.assertEqual(log.present[:4], [0, 2 * layout.region_blocks + 1, 2 * layout.region_blocks + 2, 0])
            start = 2 * layout.region_blocks
            self.assertEqual(device.read(start)[3], ((1, 2), (1, 2), 0))
            self.assertEqual(len(list(device.written_blocks())), 2 * layout.region_blocks + 3)


class MountTest(VolumeCase):
    def test_new_volume(self):
        for layout in LAYOUTS:
            volume = new_volume(layout)
            self.assertIsInstance(volume, Volume)
            self.assertEqual(volume.listdir("/"), [])
            self.assertEqual(volume.snapshots(), [])
            self.assertEqual(volume.statistics(), (0, 0, 0, 0, 1, layout.region_blocks, 2))
            self.assertEqual((volume.pending(), volume.was_cut()), (0, False))
            self.assertEqual(volume.room(), {"limit": layout.limit, "need": 2, "used": 2, "reserved": 0,
                                             "free": layout.segments - 1, "waiting": 0})

    def test_invalid_image(self):
        for device in (Device(LEAST), new_device(LEAST)):
            for address in (0, 6):
                device.write(address, None)
            with self.assertRaises(errors.InvalidImage) as caught:
                mount(device)
            found = caught.exception
            self.assertEqual((found.part, found.fault, found.number), ("log", "no whole checkpoint", 0))

    def test_device_of_its_own(self):
        device = new_device(LEAST)
        device.barrier()
        device.write(LEAST.device_blocks - 1, None)
        before = (shown(device), device.pending(), device.sure_blocks())
        volume = mount(device)
        volume.create("/a")
        volume.sync()
        volume.cut_after(0)
        volume.checkpoint()
        self.assertEqual((shown(device), device.pending(), device.sure_blocks()), before)
        self.assertFalse(device.was_cut())

    def test_what_is_read_becomes_sure(self):
        volume = new_volume()
        volume.create("/a")
        volume.snapshot("x")
        device = volume.crash(range(volume.pending()))
        for address, block in device.written_blocks():
            device.write(address, block)
        device.cut_after(0)
        device.barrier()
        again = mount(device)
        self.assertEqual((again.pending(), again.was_cut()), (0, False))
        self.assertEqual(mount(again.crash([])).snapshots(), ["x"])

    def test_open_files_and_policy_are_gone(self):
        volume = new_volume()
        handle = volume.create("/a")
        volume.reserve(handle, 5)
        volume.set_policy("oldest")
        volume.sync()
        again = mount(volume.crash([]))
        self.refused(errors.BadHandle, again.fstat, handle)
        self.assertEqual(again.room()["reserved"], 0)
        self.assertEqual(again.open_file("/a"), 0)
        self.assertEqual(again._memory.policy, "greedy")

    def test_files_without_names_are_removed(self):
        volume = new_volume()
        for name in "abc":
            handle = volume.create("/" + name)
            volume.write(handle, 0, [1] * 100)
        used = volume.room()["used"]
        volume.unlink("/a")
        volume.unlink("/b")
        self.assertEqual(volume.room()["used"], used)
        volume.sync()
        again = mount(volume.crash([]))
        self.assertEqual(again.room()["used"], used - 6)
        self.assertGreater(again.room()["waiting"], 0)
        self.assertEqual(again.statistics()[0], 0)
        self.assertEqual(fields(again.stat("/c"))[0], 4)
        self.assertEqual(fields(again.fstat(again.create("/d")))[0], 2)

    def test_cut_within_mounting(self):
        device = new_device(LEAST)
        for cut in range(12):
            volume = mount(device, cut=cut)
            self.assertEqual(volume.was_cut(), cut < 8)
            self.assertEqual(volume.listdir("/"), [])
            volume.mkdir("/a")
            volume.sync()
            self.assertEqual(volume.listdir("/"), [("a", 2)])
            self.assertEqual(mount(volume.crash([])).listdir("/"), [("a", 2)] if cut >= 8 + 5 else [])


class ChangesTest(VolumeCase):
    def test_return_values(self):
        volume = new_volume(MIDDLE)
        for name, *args in (("mkdir", "/d"), ("symlink", "d", "/l"), ("link", "/l", "/m"), ("rename", "/m", "/d/m"),
                            ("unlink", "/d/m"), ("rmdir", "/d")):
            self.assertIsNone(getattr(volume, name)(*args))
        self.assertEqual(volume.listdir("/"), [("l", 3)])

    def test_errors_of_the_changes(self):
        volume = new_volume()
        volume.mkdir("/d")
        volume.create("/d/f")
        before = (volume.rows(), volume.room())
        for text, error in UNREADABLE:
            for call in (volume.mkdir, volume.create, volume.unlink, volume.rmdir, volume.stat, volume.lstat,
                         volume.readlink, volume.listdir, volume.walk, volume.open_file):
                self.refused(error, call, text)
            self.refused(error, volume.symlink, "a", text)
            self.refused(error, volume.link, text, "/x")
            self.refused(error, volume.link, "/d/f", text)
            self.refused(error, volume.rename, text, "/x")
            self.refused(error, volume.rename, "/d/f", text)
        for error, call, *args in (
                (errors.AlreadyExists, volume.mkdir, "/d"), (errors.NotDirectory, volume.create, "/x/"),
                (errors.NotAllowed, volume.link, "/d", "/e"), (errors.IsDirectory, volume.unlink, "/d"),
                (errors.NotEmpty, volume.rmdir, "/d"), (errors.Busy, volume.rename, "/", "/x"),
                (errors.InvalidMove, volume.rename, "/d", "/d/x"), (errors.InvalidPath, volume.symlink, "", "/x")):
            self.refused(error, call, *args)
        self.assertEqual((volume.rows(), volume.room()), before)

    def test_unlink_and_rename_keep_open_files(self):
        volume = new_volume()
        first, second = volume.create("/a"), volume.create("/b")
        volume.write(first, 0, [1, 2])
        volume.write(second, 0, [3])
        volume.unlink("/a")
        volume.create("/c")
        volume.rename("/c", "/b")
        self.assertEqual((volume.read(first, 0, 9), volume.read(second, 0, 9)), ([1, 2], [3]))
        self.assertEqual([volume.fstat(handle).links for handle in (first, second)], [0, 0])
        self.assertEqual(volume.listdir("/"), [("b", 4)])


class BatchesTest(VolumeCase):
    def test_changes_wait(self):
        volume = new_volume()
        volume.mkdir("/d")
        self.assertEqual((volume.pending(), volume.room()["waiting"]), (0, 3))
        self.assertEqual(volume.statistics(), (0, 0, 0, 0, 1, 6, 2))
        volume.sync()
        self.assertEqual((volume.pending(), volume.room()["waiting"]), (0, 0))
        self.assertEqual(volume.statistics(), (1, 4, 0, 0, 1, 6, 3))
        volume.sync()
        self.assertEqual(volume.statistics(), (1, 4, 0, 0, 1, 6, 4))

    def test_batch_of_what_waits(self):
        volume = new_volume()
        volume.mkdir("/d")
        volume.snapshot("x")
        log = volume._memory.log
        start = 2 * LEAST.region_blocks + 3
        self.assertEqual(log.device.read(start)[3], ((1, 2, 3), (1, 2, 3), 1))
        volume.rmdir("/d")
        # The superblock, the inodes and the entries have other octets, and no id is given up.
        volume.snapshot("y")
        self.assertEqual(log.device.read(start + 4)[3], ((1, 2, 3), (1, 2, 3), 2))
        volume.drop("x")
        self.assertEqual(log.device.read(start + 8)[3], ((1,), (1, 2, 3), 4))
        volume.drop("y")
        self.assertEqual(log.device.read(start + 10)[3], ((1,), (1, 2, 3), 5))

    def test_ids_that_are_not_in_use_any_more(self):
        volume = new_volume()
        handle = volume.create("/a")
        volume.write(handle, 0, [1] * 200)
        volume.sync()
        used = volume.room()["used"]
        volume.punch(handle, 0, 200)
        self.assertEqual(volume.room()["used"], used - 5)
        self.assertEqual(volume.room()["waiting"], 6)
        volume.checkpoint()
        self.assertEqual((volume.room()["waiting"], volume.statistics()[:2]), (0, (2, 9 + 2)))

    def test_batch_without_blocks(self):
        volume = new_volume()
        handle = volume.create("/a")
        volume.sync()
        before = volume.statistics()
        volume.write(handle, 0, [1])
        volume.truncate(handle, 0)
        self.assertEqual(volume.room()["waiting"], 0)
        volume.sync()
        self.assertEqual(volume.statistics(), before[:6] + (before[6] + 1,))

    def filled(self, blocks):
        """Return a volume and a handle with so many touched ids, at least 3: inodes, an index block, data blocks."""
        volume = new_volume()
        handle = volume.create("/a")
        volume.write(handle, 0, [1] * 65)
        volume.truncate(handle, 65)
        volume.sync()
        for number in range(blocks - 2):
            volume.write(handle, 64 * (2 + number), [1] * 64)
        self.assertEqual(volume.room()["waiting"], blocks)
        return volume, handle

    def test_just_one_batch(self):
        volume, _ = self.filled(15)
        self.assertEqual(volume.statistics()[0], 1)
        volume.sync()
        self.assertEqual(volume.statistics()[:2], (2, 7 + 16))

    def test_one_more_than_a_batch(self):
        volume, handle = self.filled(15)
        volume.write(handle, 64 * 15, [2])
        self.assertEqual(volume.statistics()[:2], (2, 7 + 16))
        self.assertEqual(volume.room()["waiting"], 3)
        left = mount(volume.crash(range(volume.pending())))
        self.assertEqual(left.stat("/a").size, 64 * 15)
        self.assertEqual(volume.stat("/a").size, 64 * 15 + 1)

    def test_refused_change_writes_no_batch(self):
        volume, handle = self.filled(15)
        volume.reserve(handle, volume.stat("/a").block_total + LEAST.limit - volume.room()["need"])
        before = (volume.statistics(), volume.rows(), volume.room())
        self.assertEqual(before[2]["need"] + before[2]["reserved"], LEAST.limit)
        self.refused(errors.NoRoom, volume.symlink, "x" * 100, "/c")
        self.refused(errors.AlreadyExists, volume.mkdir, "/a")
        self.assertEqual((volume.statistics(), volume.rows(), volume.room()), before)
        # A batch goes ahead of this one, which needs no further block.
        volume.mkdir("/c")
        self.assertEqual(volume.statistics()[0], before[0][0] + 1)

    def test_need_behind_the_batch_that_goes_first(self):
        # The snapshot keeps a block that the change writes again as it was. Behind the batch that goes first, the
        # block of the change is another one, so the change needs one block more than without that batch.
        for more, expected in ((0, 128), (1, errors.NoRoom)):
            volume = new_volume(Layout(8, 16, 64))
            first, second, third = [volume.create("/" + name) for name in "abc"]
            volume.write(first, 0, [1] * 128)
            volume.write(second, 0, [1] * 64 * 14)
            volume.snapshot("x")
            volume.write(first, 64, [2] * 64)
            volume.write(second, 0, [2] * 64 * 14)
            room = volume.room()
            self.assertEqual(room["waiting"], 15)
            # The change needs a data block, and the index block and the inodes can no longer be shared.
            volume.reserve(third, room["limit"] - room["need"] - 3 + more)
            if expected == 128:
                self.assertEqual(volume.write(first, 64, [1] * 64 + [3] * 64), 128)
                self.assertEqual(volume.room()["need"], room["need"] + 3)
            else:
                self.refused(expected, volume.write, first, 64, [1] * 64 + [3] * 64)
                self.assertEqual(volume.room()["waiting"], 15)

    def test_policies(self):
        volume = new_volume()
        for policy in ("greedy", "oldest", "cost-benefit"):
            self.assertIsNone(volume.set_policy(policy))
        for policy in ("", "Greedy", "newest"):
            self.refused(errors.OutOfRange, volume.set_policy, policy)
        self.assertEqual(volume._memory.policy, "cost-benefit")


class WritingTest(VolumeCase):
    def test_results(self):
        volume = new_volume()
        handle = volume.create("/a")
        octets = [1, 2, 3]
        self.assertEqual(volume.write(handle, 0, octets), 3)
        self.assertEqual(octets, [1, 2, 3])
        self.assertEqual(volume.write(handle, 0, []), 0)
        self.assertEqual(volume.write(handle, 1048576, []), 0)
        self.assertEqual(volume.write(handle, 62, list(range(200))), 200)
        self.assertEqual(volume.read(handle, 60, 300), [0, 0] + list(range(200)))
        self.assertEqual(volume.read(handle, 0, 4), [1, 2, 3, 0])
        self.assertEqual(volume.read(handle, 262, 5), [])
        self.assertEqual(volume.read(handle, 0, 0), [])

    def test_pieces_are_changes(self):
        # Each piece may be followed by a batch; no batch holds half of one.
        volume = new_volume(MIDDLE)
        handle = volume.create("/a")
        self.assertEqual(volume.write(handle, 100, [7] * 6000), 6000)
        self.assertGreater(volume.statistics()[0], 1)
        sizes = set()
        for kept in range(volume.pending() + 1):
            sizes.add(mount(volume.crash(range(kept))).rows()[1:][0][4] if kept > 20 else 0)
        self.assertTrue(all(size == 0 or (size - 100 - 156) % 256 == 0 for size in sizes), sizes)
        self.assertGreater(len(sizes), 1)

    def test_end_of_the_greatest_file(self):
        volume = new_volume(MIDDLE)
        handle = volume.create("/a")
        self.refused(errors.FileTooLarge, volume.write, handle, 1048576, [1])
        self.refused(errors.FileTooLarge, volume.write, handle, 1048570, [1] * 7)
        self.assertEqual(volume.stat("/a").size, 0)
        self.assertEqual(volume.write(handle, 1048570, [1] * 6), 6)
        # The first piece ends with a block, and the second one would end behind the greatest offset.
        self.assertEqual(volume.write(handle, 1048576 - 256, [2] * 300), 256)
        self.assertEqual(volume.write(handle, 1048576 - 300, [3] * 400), 172)
        self.refused(errors.FileTooLarge, volume.write, handle, 1048576 - 128, [2] * 129)
        self.refused(errors.OutOfRange, volume.write, handle, 1048577, [])
        self.assertEqual(volume.read(handle, 1048576 - 301, 999), [0] + [3] * 172 + [2] * 128)

    def test_no_room_at_once_and_later(self):
        volume = new_volume()
        handle = volume.create("/a")
        # Of 30 blocks, 3 are taken, one goes to the index.
        self.assertEqual(volume.write(handle, 0, [1] * 64 * 40), 64 * 26)
        self.assertEqual(volume.room()["need"], 30)
        self.refused(errors.NoRoom, volume.write, handle, 64 * 26, [1])
        self.assertEqual(volume.write(handle, 64 * 26 - 5, [2] * 5), 5)
        # The first piece, which fills no new block, is written; the second one is not.
        self.assertEqual(volume.write(handle, 64 * 24, [3] * 300), 128)
        self.refused(errors.NoRoom, volume.write, handle, 64 * 25, [4] * 65)
        volume.sync()
        self.assertEqual(mount(volume.crash([])).stat("/a").size, 64 * 26)

    def test_truncate_and_punch(self):
        volume = new_volume()
        handle = volume.create("/a")
        self.assertIsNone(volume.truncate(handle, 1048576))
        self.assertEqual((volume.stat("/a").size, volume.stat("/a").block_total), (1048576, 0))
        self.assertIsNone(volume.truncate(handle, 300))
        volume.write(handle, 0, [9] * 300)
        self.assertIsNone(volume.punch(handle, 60, 200))
        self.assertEqual(volume.read(handle, 50, 220), [9] * 10 + [0] * 200 + [9] * 10)
        self.assertIsNone(volume.punch(handle, 1048576, 1048576))
        self.assertIsNone(volume.punch(handle, 5, 0))
        self.assertEqual([volume.next_data(handle, at) for at in (0, 64, 256, 299, 300)], [0, 256, 256, 299, None])
        self.assertEqual([volume.next_hole(handle, at) for at in (0, 64, 256, 300, 1048576)], [64, 64, 300, None, None])
        self.assertIsNone(volume.truncate(handle, 10))
        self.assertEqual(volume.read(handle, 0, 65536), [9] * 10)


class RangesTest(VolumeCase):
    def test_ranges(self):
        volume = new_volume()
        handle = volume.create("/a")
        large = 1048577
        for call, good, bad in (
                (volume.read, (1048576, 65536), ((large, 1), (0, 65537), (large, 65537))),
                (volume.truncate, (1048576,), ((large,),)),
                (volume.punch, (1048576, 1048576), ((large, 1), (1, large))),
                (volume.next_data, (1048576,), ((large,),)), (volume.next_hole, (1048576,), ((large,),)),
                (volume.reserve, (0,), ((60001,),))):
            call(handle, *good)
            for args in bad:
                self.refused(errors.OutOfRange, call, handle, *args)
                for number in BAD_HANDLES:
                    self.refused(errors.BadHandle, call, number, *args)
        self.refused(errors.OutOfRange, volume.write, handle, large, [1])
        self.refused(errors.BadHandle, volume.write, 5, large, [1])
        self.refused(errors.NoRoom, volume.reserve, handle, 60000)

    def test_great_numbers(self):
        volume = new_volume()
        handle = volume.create("/a")
        volume.snapshot("s")
        for call, *args in ((volume.read, GREAT, 1), (volume.read, 0, GREAT), (volume.write, GREAT, [1]),
                            (volume.truncate, GREAT), (volume.punch, GREAT, 1), (volume.punch, 1, GREAT),
                            (volume.next_data, GREAT), (volume.next_hole, GREAT), (volume.reserve, GREAT)):
            self.refused(errors.OutOfRange, call, handle, *args)
        self.refused(errors.OutOfRange, volume.read_in, "s", "/a", GREAT, 1)
        self.refused(errors.OutOfRange, volume.read_in, "s", "/a", 0, GREAT)
        self.refused(errors.OutOfRange, volume.clean, passes=GREAT)

    def test_bad_handles(self):
        volume = new_volume()
        volume.create("/a")
        for number in BAD_HANDLES:
            for call, args in ((volume.close, ()), (volume.fstat, ()), (volume.read, (0, 1)), (volume.write, (0, [1])),
                               (volume.truncate, (0,)), (volume.punch, (0, 1)), (volume.next_data, (0,)),
                               (volume.next_hole, (0,)), (volume.reserve, (1,))):
                self.refused(errors.BadHandle, call, number, *args)

    def test_access(self):
        volume = new_volume()
        volume.close(volume.create("/a"))
        reading, writing, both = [volume.open_file("/a", access=word) for word in ("read", "write", "both")]
        self.assertEqual((reading, writing, both), (0, 1, 2))
        readers = ((volume.read, (0, 1)), (volume.next_data, (0,)), (volume.next_hole, (0,)))
        writers = ((volume.write, (0, [1])), (volume.truncate, (0,)), (volume.punch, (0, 1)), (volume.reserve, (0,)))
        for call, args in readers:
            self.refused(errors.BadHandle, call, writing, *args)
            call(reading, *args)
            call(both, *args)
        for call, args in writers:
            self.refused(errors.BadHandle, call, reading, *args)
            call(writing, *args)
            call(both, *args)
        for handle in (reading, writing, both):
            self.assertEqual(volume.fstat(handle).number, 2)
            self.assertIsNone(volume.close(handle))


class OpenFilesTest(VolumeCase):
    def test_create(self):
        volume = new_volume()
        self.assertEqual([volume.create("/" + name) for name in "abc"], [0, 1, 2])
        volume.close(1)
        self.assertEqual(volume.create("/d"), 1)
        self.assertEqual(volume.write(1, 0, [5]), 1)
        self.assertEqual(volume.read(1, 0, 1), [5])

    def all_open(self):
        volume = new_volume(MIDDLE)
        volume.create("/a")
        for _ in range(15):
            volume.open_file("/a")
        return volume

    def test_too_many_open(self):
        volume = self.all_open()
        before = volume.rows()
        self.refused(errors.TooManyOpen, volume.create, "/b")
        self.refused(errors.TooManyOpen, volume.create, "/a")
        self.refused(errors.TooManyOpen, volume.create, "/x/y")
        self.refused(errors.TooManyOpen, volume.create, "/a/")
        self.refused(errors.TooManyOpen, volume.open_file, "/a")
        for text, error in UNREADABLE:
            self.refused(error, volume.create, text)
            self.refused(error, volume.open_file, text)
        self.refused(errors.NotFound, volume.open_file, "/x")
        self.refused(errors.IsDirectory, volume.open_file, "/")
        self.refused(errors.OutOfRange, volume.open_file, "/a", access="")
        self.assertEqual(volume.rows(), before)
        volume.close(7)
        self.assertEqual(volume.create("/b"), 7)

    def test_open_file(self):
        volume = new_volume()
        volume.create("/a")
        volume.mkdir("/d")
        volume.symlink("/a", "/d/l")
        self.assertEqual(volume.open_file("/d/l"), 1)
        self.assertEqual(volume.fstat(1).number, 2)
        self.refused(errors.BadHandle, volume.write, 1, 0, [1])
        for access in ("", "r", "Read", "none"):
            self.refused(errors.OutOfRange, volume.open_file, "/a", access=access)
            self.refused(errors.OutOfRange, volume.open_file, "/none", access=access)
            self.refused(errors.OutOfRange, volume.open_file, "", access=access)
        for text, error in (("/d", errors.IsDirectory), ("/d/", errors.IsDirectory), ("/x", errors.NotFound),
                            ("/a/", errors.NotDirectory), ("/d/l/", errors.NotDirectory)):
            self.refused(error, volume.open_file, text)

    def test_close(self):
        volume = new_volume()
        first = volume.create("/a")
        second = volume.open_file("/a")
        volume.write(first, 0, [1] * 64)
        volume.unlink("/a")
        used = volume.room()["used"]
        self.assertIsNone(volume.close(first))
        self.assertEqual(volume.room()["used"], used)
        self.assertEqual(volume.read(second, 0, 2), [1, 1])
        self.assertIsNone(volume.close(second))
        self.assertEqual(volume.room()["used"], used - 1)
        self.refused(errors.BadHandle, volume.close, second)
        third = volume.create("/b")
        self.assertEqual(volume.fstat(third).number, 2)
        volume.close(third)
        self.assertEqual(volume.listdir("/"), [("b", 2)])

    def test_file_that_stays_without_a_name(self):
        volume, number = self.stuck()
        again = mount(volume.unmount())
        self.assertEqual(self.numbers(again), self.numbers(volume))
        self.assertIn(number, self.numbers(again))
        again = mount(again.crash([]))
        self.assertIn(number, self.numbers(again))
        again.drop("x")
        self.assertIn(number, self.numbers(again))
        last = mount(again.unmount())
        self.assertNotIn(number, self.numbers(last))
        self.assertIsNone(check(last.unmount()))

    def numbers(self, volume):
        return volume._memory.nodes.numbers_in_use()

    def stuck(self):
        """Return a full volume with a snapshot and a file without a name that could not be removed, and its number."""
        volume = new_volume()
        for number in range(4):
            volume.close(volume.create(f"/{number}"))
        handle = volume.create("/a")
        number = volume.fstat(handle).number
        volume.unlink("/a")
        volume.sync()
        volume.snapshot("x")
        other = volume.open_file("/0", access="both")
        size = 0
        while True:
            try:
                volume.write(other, size, [size % 256] * 64)
            except errors.NoRoom:
                break
            size += 64
        volume.close(other)
        # Removing the file would change the block of its inode, which the snapshot keeps.
        self.assertEqual(volume.room()["need"], LEAST.limit)
        volume.close(handle)
        self.assertIn(number, self.numbers(volume))
        self.refused(errors.BadHandle, volume.fstat, handle)
        return volume, number


class ReservingTest(VolumeCase):
    def test_reserved(self):
        volume = new_volume()
        handle = volume.create("/a")
        other = volume.open_file("/a", access="write")
        self.assertIsNone(volume.reserve(handle, 10))
        self.assertEqual(volume.room()["reserved"], 10)
        volume.reserve(other, 4)
        self.assertEqual(volume.room()["reserved"], 14)
        volume.write(handle, 0, [1] * 300)
        self.assertEqual(volume.room()["reserved"], 4)
        self.assertEqual(volume.stat("/a").block_total, 6)
        volume.truncate(handle, 64)
        self.assertEqual(volume.room()["reserved"], 9 + 3)
        volume.close(handle)
        self.assertEqual(volume.room()["reserved"], 3)
        volume.reserve(other, 0)
        self.assertEqual(volume.room()["reserved"], 0)

    def test_limit_that_is_just_met_and_just_missed(self):
        volume = new_volume()
        handle = volume.create("/a")
        self.assertEqual(volume.room()["need"], 3)
        volume.reserve(handle, 27)
        for blocks in (28, 29, 60000):
            self.refused(errors.NoRoom, volume.reserve, handle, blocks)
            self.assertEqual(volume.room()["reserved"], 27)
        volume.mkdir("/d")
        self.refused(errors.NoRoom, volume.mkdir, "/e")
        self.assertEqual(volume.write(handle, 0, [1] * 64 * 26), 64 * 26)
        self.assertEqual((volume.room()["need"], volume.room()["reserved"]), (30, 0))
        self.refused(errors.NoRoom, volume.mkdir, "/e")
        volume.truncate(handle, 0)
        self.assertEqual((volume.room()["need"], volume.room()["reserved"]), (3, 27))
        self.refused(errors.NoRoom, volume.mkdir, "/e")
        # The directory needs two blocks for its inode and two for its entry.
        volume.reserve(handle, 24)
        self.refused(errors.NoRoom, volume.mkdir, "/e")
        volume.reserve(handle, 23)
        volume.mkdir("/e")
        self.assertEqual((volume.room()["need"], volume.room()["reserved"]), (7, 23))

    def test_writing_within_what_is_reserved(self):
        volume = new_volume()
        handle, other = volume.create("/a"), volume.create("/b")
        volume.reserve(handle, 10)
        # Another file may take the rest: 30 less 3 and less 10 blocks.
        self.assertEqual(volume.write(other, 0, [1] * 64 * 40), 64 * 16)
        self.refused(errors.NoRoom, volume.write, other, 64 * 16, [1])
        # A piece has two blocks, so the fifth one is too much, but half of it is not.
        self.assertEqual(volume.write(handle, 0, [2] * 64 * 20), 64 * 8)
        self.assertEqual(volume.write(handle, 64 * 8, [2] * 64), 64)
        self.assertEqual(volume.stat("/a").block_total, 10)
        self.refused(errors.NoRoom, volume.write, handle, 64 * 9, [2])


class TransactionsTest(VolumeCase):
    def test_commit(self):
        volume = new_volume()
        volume.mkdir("/a")
        self.assertIsNone(volume.begin())
        self.assertEqual(volume.statistics()[0], 1)
        volume.mkdir("/b")
        volume.mkdir("/c")
        self.assertEqual(volume.statistics()[0], 1)
        left = mount(volume.crash(range(volume.pending())))
        self.assertEqual(left.listdir("/"), [("a", 2)])
        self.assertIsNone(volume.commit())
        self.assertEqual(volume.statistics()[0], 2)
        left = mount(volume.crash(range(volume.pending())))
        self.assertEqual(left.listdir("/"), [("a", 2), ("b", 3), ("c", 4)])
        for kept in range(4, volume.pending()):
            self.assertEqual(mount(volume.crash(range(kept))).listdir("/"), [("a", 2)])

    def test_nothing_to_write(self):
        volume = new_volume()
        volume.begin()
        volume.commit()
        volume.begin()
        volume.abort()
        self.assertEqual(volume.statistics(), (0, 0, 0, 0, 1, 6, 2))

    def test_abort(self):
        volume = new_volume()
        first = volume.create("/a")
        second = volume.create("/b")
        volume.write(first, 0, [1])
        volume.reserve(first, 5)
        volume.unlink("/b")
        before = (volume.rows(), [fields(volume.fstat(handle)) for handle in (0, 1)], volume.room()["reserved"])
        volume.begin()
        volume.write(first, 0, [2] * 300)
        volume.reserve(first, 1)
        volume.close(second)
        volume.close(first)
        volume.create("/c")
        volume.open_file("/a", access="write")
        volume.set_policy("oldest")
        self.assertIsNone(volume.abort())
        after = (volume.rows(), [fields(volume.fstat(handle)) for handle in (0, 1)], volume.room()["reserved"])
        self.assertEqual(after, before)
        self.refused(errors.BadHandle, volume.fstat, 2)
        self.assertEqual(volume.read(first, 0, 9), [1])
        self.assertEqual((volume._memory.policy, volume.room()["waiting"]), ("oldest", 0))

    def test_errors(self):
        volume = new_volume()
        for call in (volume.commit, volume.abort):
            self.refused(errors.NoTransaction, call)
        volume.snapshot("x")
        volume.begin()
        for call, args in ((volume.sync, ()), (volume.checkpoint, ()), (volume.clean, ()), (volume.snapshot, ("y",)),
                           (volume.drop, ("x",)), (volume.begin, ()), (volume.snapshot, ("x",)), (volume.drop, ("z",))):
            self.refused(errors.Busy, call, *args)
        self.refused(errors.OutOfRange, volume.clean, passes=0)
        self.refused(errors.OutOfRange, volume.clean, policy="x")
        for call in (volume.snapshot, volume.drop):
            self.refused(errors.InvalidName, call, "")
        volume.commit()
        for call in (volume.commit, volume.abort):
            self.refused(errors.NoTransaction, call)
        volume.drop("x")

    def filled(self):
        """Return a volume within a transaction that touches as many ids as a batch holds, and a handle."""
        volume = new_volume()
        handle = volume.create("/a")
        volume.write(handle, 0, [1] * 65)
        volume.begin()
        for number in range(13):
            volume.write(handle, 64 * (2 + number), [1] * 64)
        self.assertEqual(volume.room()["waiting"], 15)
        return volume, handle

    def test_as_many_ids_as_a_batch_holds_and_one_more(self):
        volume, handle = self.filled()
        before = volume.rows()
        self.refused(errors.TransactionTooLarge, volume.write, handle, 64 * 15, [2])
        self.refused(errors.TransactionTooLarge, volume.mkdir, "/d")
        self.refused(errors.AlreadyExists, volume.mkdir, "/a")
        self.assertEqual(volume.rows(), before)
        # What is touched already can be changed on, and a write goes as far as it can.
        self.assertEqual(volume.write(handle, 64 * 13, [3] * 200), 128)
        volume.truncate(handle, 64 * 12)
        self.assertEqual(volume.write(handle, 64 * 12, [4] * 64 * 9), 64 * 2)
        volume.write(handle, 64 * 14, [5])
        volume.commit()
        self.assertEqual(volume.statistics()[:2], (2, 7 + 16))

    def test_too_large_ahead_of_no_room(self):
        volume, handle = self.filled()
        volume.reserve(handle, volume.stat("/a").block_total + LEAST.limit - volume.room()["need"])
        self.assertEqual(volume.room()["need"] + volume.room()["reserved"], LEAST.limit)
        self.refused(errors.TransactionTooLarge, volume.symlink, "x" * 200, "/l")
        volume.abort()
        volume.begin()
        volume.reserve(handle, volume.stat("/a").block_total + LEAST.limit - volume.room()["need"])
        self.refused(errors.NoRoom, volume.symlink, "x" * 200, "/l")

    def test_removal_that_is_too_large(self):
        for end in ("commit", "abort"):
            volume = new_volume()
            handles = [volume.create("/" + name) for name in "abcd"]
            volume.unlink("/d")
            volume.write(handles[0], 0, [1] * 65)
            volume.begin()
            for number in range(13):
                volume.write(handles[0], 64 * (2 + number), [1] * 64)
            self.assertEqual(volume.room()["waiting"], 15)
            # The inodes of the two files lie in different blocks.
            self.assertIsNone(volume.close(handles[3]))
            self.assertEqual(volume._memory.nodes.numbers_in_use(), [1, 2, 3, 4, 5])
            getattr(volume, end)()
            if end == "abort":
                self.assertEqual(volume.fstat(handles[3]).links, 0)
                volume.close(handles[3])
                self.assertEqual(volume._memory.nodes.numbers_in_use(), [1, 2, 3, 4])
            # Unmounting removes the file, not only the next mounting.
            log = recover(volume.unmount())
            self.assertEqual(Nodes(LEAST, contents_of(log, log.present)).numbers_in_use(), [1, 2, 3, 4])


class SnapshotsTest(VolumeCase):
    def test_taking_and_dropping(self):
        volume = new_volume(MIDDLE)
        handle = volume.create("/a")
        volume.write(handle, 0, [1, 2, 3])
        self.assertIsNone(volume.snapshot("one"))
        volume.write(handle, 1, [9])
        volume.mkdir("/d")
        volume.snapshot("two")
        volume.unlink("/a")
        self.assertEqual(volume.snapshots(), ["one", "two"])
        self.assertEqual(volume.read_in("one", "/a", 0, 9), [1, 2, 3])
        self.assertEqual(volume.read_in("two", "/a", 1, 1), [9])
        self.assertEqual(volume.list_in("one", "/"), [("a", 2)])
        self.assertEqual(volume.list_in("two", "/"), [("a", 2), ("d", 3)])
        self.assertEqual(volume.listdir("/"), [("d", 3)])
        self.assertIsNone(volume.drop("one"))
        self.assertEqual(volume.snapshots(), ["two"])
        volume.snapshot("three")
        self.assertEqual(volume.snapshots(), ["three", "two"])
        self.assertEqual(volume.list_in("three", "/"), [("d", 3)])

    def test_three_and_one_more(self):
        volume = new_volume()
        for name in ("a", "b", "c"):
            volume.snapshot(name)
        self.refused(errors.NoRoom, volume.snapshot, "d")
        self.refused(errors.AlreadyExists, volume.snapshot, "b")
        self.refused(errors.InvalidName, volume.snapshot, "")
        volume.drop("b")
        volume.snapshot("d")
        self.assertEqual(volume.snapshots(), ["a", "d", "c"])
        self.refused(errors.NotFound, volume.drop, "b")
        volume.drop("a")
        volume.snapshot("a")
        self.assertEqual(volume.snapshots(), ["a", "d", "c"])

    def test_names(self):
        volume = new_volume()
        for name in ("", "x" * 13, "a b", "a%", "\n", "\x7f", "\xe9"):
            for call in (volume.snapshot, volume.drop, volume.rows_in):
                self.refused(errors.InvalidName, call, name)
            self.refused(errors.InvalidName, volume.stat_in, name, "")
            self.refused(errors.InvalidName, volume.list_in, name, "")
            self.refused(errors.InvalidName, volume.readlink_in, name, "")
            self.refused(errors.InvalidName, volume.read_in, name, "", 0, 65537)
            self.refused(errors.InvalidName, volume.differences, name, None)
            self.refused(errors.InvalidName, volume.differences, None, name)
        for name in ("x" * 12, "!", "~/."):
            volume.snapshot(name)
            self.assertEqual(volume.rows_in(name)[0][0], "")
            volume.drop(name)
            for call in (volume.drop, volume.rows_in):
                self.refused(errors.NotFound, call, name)

    def test_no_barrier(self):
        volume = new_volume()
        volume.sync()
        barriers = volume.statistics()[6]
        volume.snapshot("a")
        volume.drop("a")
        self.assertEqual(volume.statistics()[6], barriers)
        self.assertEqual(volume.pending(), 4)
        self.assertEqual([mount(volume.crash(range(kept))).snapshots() for kept in range(5)],
                         [[], [], ["a"], ["a"], []])

    def test_snapshot_within_the_limit(self):
        volume = new_volume()
        handle = volume.create("/a")
        volume.write(handle, 0, [1] * 64 * 26)
        self.assertEqual(volume.room()["need"], 30)
        volume.snapshot("a")
        self.assertEqual(volume.room()["need"], 30)
        # A further snapshot needs another superblock.
        self.refused(errors.NoRoom, volume.snapshot, "b")
        self.refused(errors.NoRoom, volume.write, handle, 0, [2])
        self.refused(errors.NoRoom, volume.unlink, "/a")
        self.assertEqual((volume.snapshots(), volume.room()["need"]), (["a"], 30))
        volume.drop("a")
        self.assertEqual(volume.room()["need"], 30)
        volume.write(handle, 0, [2])
        volume.sync()
        self.assertIsNone(check(volume.crash([])))

    def test_snapshot_with_reserved_blocks(self):
        volume = new_volume()
        handle = volume.create("/a")
        volume.snapshot("a")
        self.assertEqual(volume.room()["need"], 3)
        volume.reserve(handle, 26)
        volume.snapshot("b")
        self.assertEqual((volume.room()["need"], volume.room()["reserved"]), (4, 26))
        self.refused(errors.NoRoom, volume.snapshot, "c")
        self.refused(errors.NoRoom, volume.mkdir, "/d")
        volume.reserve(handle, 25)
        volume.snapshot("c")

    def test_batch_ahead_of_a_snapshot(self):
        volume = new_volume(Layout(8, 16, 64))
        handle = volume.create("/a")
        volume.write(handle, 0, [1] * 65)
        volume.sync()
        for number in range(13):
            volume.write(handle, 64 * (2 + number), [1] * 64)
        self.assertEqual(volume.room()["waiting"], 15)
        volume.snapshot("x")
        # First the 15 blocks, then the superblock alone.
        self.assertEqual(volume.statistics()[:2], (3, 7 + 16 + 2))
        for number in range(15):
            volume.write(handle, 64 * number, [2])
        self.assertEqual(volume.room()["waiting"], 15)
        volume.drop("x")
        self.assertEqual(volume.statistics()[:2], (5, 7 + 16 + 2 + 16 + 2))

    def test_questions(self):
        volume = new_volume(MIDDLE)
        volume.mkdir("/d")
        handle = volume.create("/d/f")
        volume.write(handle, 0, list(range(100)))
        volume.symlink("d", "/l")
        volume.snapshot("x")
        volume.unlink("/d/f")
        volume.unlink("/l")
        self.assertEqual(fields(volume.stat_in("x", "/l")), (2, "directory", 1, 32, 1))
        self.assertEqual(fields(volume.stat_in("x", "/l/f")), (3, "file", 1, 100, 1))
        self.assertEqual(volume.list_in("x", "/l"), [("f", 3)])
        self.assertEqual(volume.readlink_in("x", "/l"), "d")
        self.assertEqual(volume.read_in("x", "/l/f", 10, 5), [10, 11, 12, 13, 14])
        self.assertEqual(volume.read_in("x", "/d/f", 1048576, 65536), [])
        for error, call, *args in (
                (errors.OutOfRange, volume.read_in, "x", "/none", 1048577, 1),
                (errors.OutOfRange, volume.read_in, "x", "", 0, 65537),
                (errors.NotFound, volume.read_in, "y", "", 0, 65537),
                (errors.InvalidPath, volume.read_in, "x", "", 0, 1), (errors.NotFound, volume.read_in, "x", "/z", 0, 1),
                (errors.IsDirectory, volume.read_in, "x", "/l", 0, 1), (errors.NotFound, volume.stat_in, "x", "/z"),
                (errors.NotDirectory, volume.list_in, "x", "/d/f"), (errors.NotLink, volume.readlink_in, "x", "/d"),
                (errors.NotFound, volume.stat_in, "y", ""), (errors.NotFound, volume.list_in, "y", ""),
                (errors.NotFound, volume.readlink_in, "y", "")):
            self.refused(error, call, *args)
        self.refused(errors.NotFound, volume.stat, "/l")

    def test_differences(self):
        volume = new_volume(MIDDLE)
        handle = volume.create("/a")
        volume.snapshot("one")
        volume.write(handle, 0, [1])
        volume.mkdir("/d")
        volume.snapshot("two")
        volume.rmdir("/d")
        self.assertEqual(volume.differences("one", "two"), [("/a", "changed"), ("/d", "added")])
        self.assertEqual(volume.differences("two", None), [("/d", "removed")])
        self.assertEqual(volume.differences(None, "one"), [("/a", "changed")])
        self.assertEqual(volume.differences(None, None), [])
        self.refused(errors.InvalidName, volume.differences, "", "three")
        self.refused(errors.NotFound, volume.differences, "three", "")
        self.refused(errors.InvalidName, volume.differences, "one", "")
        self.refused(errors.NotFound, volume.differences, "one", "three")

    def test_open_file_without_a_name_in_a_snapshot(self):
        volume = new_volume()
        handle = volume.create("/a")
        volume.unlink("/a")
        volume.snapshot("x")
        volume.close(handle)
        self.assertEqual(volume.rows_in("x"), volume.rows())
        self.assertIsNone(check(volume.unmount()))


class QuestionsTest(VolumeCase):
    def test_rows(self):
        volume = new_volume()
        volume.mkdir("/d")
        handle = volume.create("/d/f")
        volume.write(handle, 130, [1, 2])
        volume.write(handle, 0, [3])
        volume.symlink("d", "/l")
        volume.create("/d-")
        self.assertEqual(volume.rows(), [
            ("", 1, "directory", 1, 96, 3, None), ("/d", 2, "directory", 1, 32, 1, None),
            ("/d/f", 3, "file", 1, 132, 3, [(0, [3] + [0] * 63), (2, [0, 0, 1, 2])]),
            ("/d-", 5, "file", 1, 0, 0, []), ("/l", 4, "link", 1, 1, 1, "d")])
        volume.snapshot("x")
        before = volume.rows()
        volume.rows()[2][6][0][1].clear()
        volume.unlink("/l")
        self.assertEqual(volume.rows_in("x"), before)

    def test_walk(self):
        volume = new_volume()
        volume.mkdir("/d")
        volume.create("/d/f")
        volume.symlink("d", "/l")
        for text, ways in (("/", ["", "/d", "/d/f", "/l"]), ("/d", ["", "/f"]), ("/l", [""]), ("/l/", ["", "/f"])):
            self.assertEqual([way for way, _ in volume.walk(text)], ways)
        self.assertEqual(fields(volume.walk("/l")), [("", (4, "link", 1, 1, 1))])
        self.refused(errors.NotFound, volume.walk, "/x")
        self.refused(errors.NotDirectory, volume.walk, "/d/f/")

    def test_stat(self):
        volume = new_volume()
        volume.mkdir("/d")
        volume.symlink("d", "/l")
        self.assertEqual(fields(volume.stat("/l")), (2, "directory", 1, 0, 0))
        self.assertEqual(fields(volume.lstat("/l")), (3, "link", 1, 1, 1))
        self.assertEqual(fields(volume.lstat("/l/")), (2, "directory", 1, 0, 0))
        self.assertEqual(volume.readlink("/l"), "d")
        self.assertEqual([getattr(volume.stat("/"), name) for name in FIELDS], [1, "directory", 1, 64, 1])

    def test_reports(self):
        volume = new_volume()
        self.assertEqual(volume.segment_report(), [("head", 2, 2), ("free", 0, 4), ("free", 0, 4), ("free", 0, 4)])
        volume.mkdir("/d")
        volume.sync()
        self.assertEqual(volume.segment_report()[0], ("head", 3, 0))
        self.assertEqual(volume.room(), {"limit": 30, "need": 3, "used": 3, "reserved": 0, "free": 3, "waiting": 0})


class CleaningTest(VolumeCase):
    def test_errors(self):
        volume = new_volume()
        for keywords in ({"policy": "x"}, {"policy": ""}, {"passes": 0}, {"passes": 65}, {"policy": "x", "passes": 65}):
            self.refused(errors.OutOfRange, volume.clean, **keywords)
        for keywords in ({}, {"policy": "oldest"}, {"passes": 64, "policy": "cost-benefit"}, {"passes": 1}):
            self.assertEqual(volume.clean(**keywords), 3)

    def test_cleaning(self):
        volume = new_volume()
        handles = [volume.create(f"/{name}") for name in "abcd"]
        for turn in range(10):
            for handle in handles:
                volume.write(handle, 0, [turn] * 64 * (1 + handle % 2))
                volume.sync()
        before = volume.rows()
        volume.mkdir("/e")
        moves = volume.statistics()[2]
        free = volume.clean(passes=64)
        self.assertEqual(free, volume.room()["free"])
        self.assertLess(len([row for row in volume.segment_report() if row[0] != "free" and 0 < row[1] < 15]), 3)
        self.assertGreaterEqual(volume.statistics()[2], moves)
        self.assertEqual((volume.pending(), volume.room()["waiting"]), (0, 0))
        self.assertEqual(mount(volume.crash([])).rows(), volume.rows())
        self.assertNotEqual(volume.rows(), before)

    def test_checkpoint(self):
        volume = new_volume()
        volume.mkdir("/a")
        self.assertIsNone(volume.checkpoint())
        self.assertEqual((volume.pending(), volume.statistics()), (0, (1, 4, 0, 0, 2, 12, 4)))
        self.assertIsNone(volume.sync())

    def test_room_is_made_by_the_policy_of_the_volume(self):
        # The same calls with another policy move other blocks.
        moved = {}
        for policy in (None, "greedy", "oldest", "cost-benefit"):
            volume = new_volume(Layout(8, 16, 64))
            if policy is not None:
                volume.set_policy(policy)
            handles = [volume.create(f"/{number}") for number in range(8)]
            for handle in handles:
                volume.write(handle, 0, [1] * 64 * 6)
            for turn in range(500):
                volume.write(handles[turn * turn % 8], 64 * (turn * 5 % 6), [turn % 256] * 64)
                volume.sync()
            moved[policy] = (volume.statistics(), tuple(volume.segment_report()))
        self.assertEqual(len(set(moved.values())), 3)
        self.assertEqual(moved[None], moved["greedy"])

    def cluttered(self):
        """Return a volume with several candidates, of which everything is sure."""
        volume = new_volume(Layout(8, 16, 64))
        volume.set_policy("oldest")
        handles = [volume.create(f"/{name}") for name in "abcd"]
        volume.snapshot("x")
        for turn in range(24):
            volume.write(handles[turn * turn % 4], 64 * (turn % 3), [turn] * 64)
            volume.sync()
            if turn % 8 == 0:
                volume.write(handles[1], 640 + 64 * turn, [turn] * 300)
        volume.sync()
        return volume

    def test_cleaning_by_the_given_policy(self):
        results = []
        for policy in ("greedy", "oldest", "cost-benefit"):
            for passes in (1, 2, 5):
                volume = self.cluttered()
                fork = volume._memory.log.fork()
                self.assertEqual(volume.clean(policy=policy, passes=passes), clean_log(fork, passes, policy=policy))
                results.append((volume.segment_report(), volume.statistics()))
                self.assertEqual(results[-1], (segment_rows(fork), fork.counts.as_row()))
        volume = self.cluttered()
        volume.clean()
        self.assertEqual((volume.segment_report(), volume.statistics()), results[0])
        for other in results[1:4] + results[6:7]:
            self.assertNotEqual(results[0], other)


class UnmountTest(VolumeCase):
    def test_unmount(self):
        volume = new_volume()
        handle = volume.create("/a")
        volume.write(handle, 0, [1, 2])
        volume.snapshot("x")
        volume.mkdir("/d")
        device = volume.unmount()
        self.assertIsNone(check(device))
        self.assertEqual((device.pending(), device.was_cut()), (0, False))
        newest = max([block for _, block in device.written_blocks()], key=lambda block: block[1])
        self.assertEqual(newest[0], PART)
        again = mount(device)
        self.assertEqual(again.rows(), volume.rows())
        self.assertEqual((again.snapshots(), again.room()["waiting"]), (["x"], 0))

    def test_files_without_names(self):
        volume = new_volume()
        handles = [volume.create(f"/{name}") for name in "abc"]
        volume.open_file("/b")
        for name in "ab":
            volume.unlink("/" + name)
        self.assertEqual(handles, [0, 1, 2])
        again = mount(volume.unmount())
        self.assertEqual(again.room()["waiting"], 0)
        self.assertEqual(again.listdir("/"), [("c", 4)])
        self.assertEqual(again._memory.nodes.numbers_in_use(), [1, 4])

    def test_open_transaction(self):
        volume = new_volume()
        handle = volume.create("/a")
        volume.begin()
        volume.mkdir("/d")
        volume.close(handle)
        volume.unlink("/a")
        again = mount(volume.unmount())
        self.assertEqual(again.listdir("/"), [("a", 2)])

    def test_behind_a_power_cut(self):
        volume = new_volume()
        volume.mkdir("/a")
        volume.cut_after(2)
        volume.sync()
        self.assertTrue(volume.was_cut())
        volume.mkdir("/b")
        device = volume.unmount()
        self.assertFalse(device.was_cut())
        self.assertIsNone(check(device))
        self.assertEqual(mount(device).listdir("/"), [("a", 2), ("b", 3)])
        self.assertEqual(mount(volume.crash([0, 1])).listdir("/"), [])


class PowerTest(VolumeCase):
    def test_calls_behind_a_power_cut_go_on_in_memory(self):
        volume = new_volume()
        handle = volume.create("/a")
        volume.sync()
        self.assertIsNone(volume.cut_after(0))
        self.assertFalse(volume.was_cut())
        for turn in range(30):
            self.assertEqual(volume.write(handle, 64 * (turn % 9), [turn] * 64), 64)
            volume.sync()
        volume.snapshot("x")
        volume.clean(passes=3)
        self.assertTrue(volume.was_cut())
        volume.cut_after(100)
        volume.write(handle, 0, [5])
        self.assertEqual(volume.stat("/a").size, 64 * 9)
        self.assertEqual(volume.read_in("x", "/a", 0, 1), [27])
        left = mount(volume.crash([]))
        self.assertEqual((left.stat("/a").size, left.snapshots()), (0, []))

    def test_crash(self):
        volume = new_volume()
        volume.mkdir("/a")
        volume.snapshot("x")
        self.assertEqual(volume.pending(), 4)
        for kept, torn, expected in (
                ([], (), []), ((0, 1, 2, 3), (), ["x"]), ([3, 2, 1, 0, 9], [], ["x"]), ([0, 1, 2], (), []),
                ((0, 1, 2, 3), [2], []), ([1, 2, 3], (0,), [])):
            left = volume.crash(kept, torn=torn)
            self.assertEqual((left.pending(), left.was_cut()), (0, False))
            self.assertEqual(mount(left).snapshots(), expected)
        volume.mkdir("/b")
        self.assertEqual(volume.listdir("/"), [("a", 2), ("b", 3)])


if __name__ == "__main__":
    unittest.main()
