"""Points 140 to 147: plain volumes, call by call."""

import random
import unittest

from helpers import GREAT, LAYOUTS, LEAST, MIDDLE, FileModel, run_example
from segmentfs import errors
from segmentfs.geometry.layout import Layout
from segmentfs.plain.files import (
    next_data_in, next_hole_in, punch_octets, read_octets, truncate_octets, write_octets)
from segmentfs.plain.nodes import PlainNode
from segmentfs.plain.volume import PlainVolume
from segmentfs.volume.volume import Volume
from test_changes import UNREADABLE
from volumepair import fields

METHODS = (
    "mkdir", "create", "symlink", "link", "unlink", "rmdir", "rename", "open_file", "close", "read", "write",
    "truncate", "punch", "next_data", "next_hole", "reserve", "fstat", "stat", "lstat", "readlink", "listdir", "walk",
    "begin", "commit", "abort", "snapshot", "drop", "snapshots", "rows", "rows_in")
WIDE = Layout(8, 16, 64)


class PlainCase(unittest.TestCase):
    def refused(self, error, call, *args, **keywords):
        with self.assertRaises(errors.SegmentError, msg=(args, keywords)) as caught:
            call(*args, **keywords)
        self.assertIs(type(caught.exception), error, (args, keywords))

    def state(self, volume):
        """Return all that is told of a plain volume."""
        handles = []
        for handle in range(16):
            try:
                handles.append(fields(volume.fstat(handle)))
            except errors.BadHandle:
                handles.append(None)
        return (volume.rows(), [(name, volume.rows_in(name)) for name in volume.snapshots()], handles, volume.used())


class InterfaceTest(PlainCase):
    def test_example(self):
        run_example(self, """
>>> from segmentfs.geometry.layout import Layout
>>> from segmentfs.plain.volume import PlainVolume
>>> volume = PlainVolume(Layout(4, 16, 64))
>>> handle = volume.create("/a")
>>> volume.write(handle, 62, [1, 2, 3])
3
>>> volume.unlink("/a")
>>> volume.used()
6
>>> volume.remounted().used()
3
""")

    def test_methods(self):
        for name in METHODS:
            self.assertIn(name, vars(Volume))
            self.assertIn(name, vars(PlainVolume))
        for name in ("quiet", "used", "fork", "remounted"):
            self.assertIn(name, vars(PlainVolume))
        self.assertIs(PlainVolume(LEAST).layout, LEAST)

    def test_new_volume(self):
        for layout in LAYOUTS:
            volume = PlainVolume(layout)
            self.assertEqual(volume.rows(), [("", 1, "directory", 1, 0, 0, None)])
            self.assertEqual((volume.used(), volume.snapshots(), volume.listdir("/")), (2, [], []))
            self.refused(errors.BadHandle, volume.fstat, 0)


class ChangesTest(PlainCase):
    def test_return_values(self):
        volume = PlainVolume(MIDDLE)
        for name, *args in (("mkdir", "/d"), ("symlink", "d", "/l"), ("link", "/l", "/m"), ("rename", "/m", "/d/m"),
                            ("unlink", "/d/m"), ("rmdir", "/d")):
            self.assertIsNone(getattr(volume, name)(*args))
        self.assertEqual(volume.listdir("/"), [("l", 3)])
        self.assertEqual((volume.create("/a"), volume.create("/b")), (0, 1))

    def test_errors(self):
        volume = PlainVolume(LEAST)
        volume.mkdir("/d")
        volume.create("/d/f")
        before = self.state(volume)
        for text, error in UNREADABLE:
            for call in (volume.mkdir, volume.create, volume.unlink, volume.rmdir, volume.stat, volume.lstat,
                         volume.readlink, volume.listdir, volume.walk, volume.open_file):
                self.refused(error, call, text)
            self.refused(error, volume.symlink, "a", text)
            self.refused(error, volume.link, text, "/x")
            self.refused(error, volume.rename, "/d/f", text)
        for error, call, *args in (
                (errors.AlreadyExists, volume.mkdir, "/d"), (errors.NotDirectory, volume.create, "/x/"),
                (errors.NotAllowed, volume.link, "/d", "/e"), (errors.IsDirectory, volume.unlink, "/d"),
                (errors.NotEmpty, volume.rmdir, "/d"), (errors.Busy, volume.rename, "/", "/x"),
                (errors.InvalidMove, volume.rename, "/d", "/d/x"), (errors.InvalidPath, volume.symlink, "", "/x"),
                (errors.NotLink, volume.readlink, "/d"), (errors.NotDirectory, volume.listdir, "/d/f"),
                (errors.IsDirectory, volume.open_file, "/d"), (errors.NotFound, volume.walk, "/x")):
            self.refused(error, call, *args)
        self.assertEqual(self.state(volume), before)

    def test_places_of_a_directory(self):
        volume = PlainVolume(LEAST)
        for name in "abc":
            volume.create("/" + name)
        self.assertEqual(fields(volume.stat("/")), (1, "directory", 1, 96, 3))
        for name in "abc":
            volume.unlink("/" + name)
        self.assertEqual(fields(volume.stat("/")), (1, "directory", 1, 96, 3))
        volume.mkdir("/x")
        self.assertEqual(volume.stat("/").size, 96)

    def test_blocks_in_use(self):
        volume = PlainVolume(WIDE)
        used = [volume.used()]
        for name in "abcdefg":
            volume.mkdir("/" + name)
            used.append(volume.used())
        # One block for four inodes and one for two entries, and an index block for two or more of them.
        self.assertEqual(used, [2, 3, 3, 7, 7, 8, 8, 10])

    def test_block_totals(self):
        for layout in LAYOUTS:
            size = layout.block_size
            volume = PlainVolume(layout)
            volume.symlink("x" * 200, "/l")
            blocks = -(-200 // size)
            self.assertEqual(volume.lstat("/l").block_total, blocks + (blocks > 1))
            handle = volume.create("/a")
            volume.write(handle, 5 * size, [1] * (size + 1))
            self.assertEqual(fields(volume.fstat(handle)), (3, "file", 1, 6 * size + 1, 3))


class FilesTest(PlainCase):
    def test_reading_and_writing(self):
        volume = PlainVolume(LEAST)
        handle = volume.create("/a")
        octets = list(range(150))
        self.assertEqual(volume.write(handle, 60, octets), 150)
        octets.clear()
        self.assertEqual(volume.read(handle, 58, 200), [0, 0] + list(range(150)))
        self.assertEqual((volume.read(handle, 210, 1), volume.read(handle, 209, 9)), ([], [149]))
        self.assertEqual((volume.write(handle, 0, []), volume.write(handle, 1048576, [])), (0, 0))
        self.assertEqual(volume.next_hole(handle, 0), 210)
        self.assertIsNone(volume.punch(handle, 0, 128))
        self.assertEqual((volume.next_data(handle, 0), volume.next_hole(handle, 0)), (128, 0))
        self.assertIsNone(volume.truncate(handle, 130))
        self.assertEqual(volume.rows()[1], ("/a", 2, "file", 1, 130, 2, [(2, [68, 69])]))

    def test_pieces(self):
        volume = PlainVolume(MIDDLE)
        handle = volume.create("/a")
        self.refused(errors.FileTooLarge, volume.write, handle, 1048570, [1] * 7)
        self.assertEqual(volume.write(handle, 1048576 - 300, [3] * 400), 172)
        self.assertEqual(volume.fstat(handle).size, 1048576 - 128)
        self.assertEqual(volume.write(handle, 1048575, [4]), 1)
        self.refused(errors.FileTooLarge, volume.write, handle, 1048575, [4, 5])
        self.refused(errors.FileTooLarge, volume.write, handle, 1048576, [4])
        self.assertEqual(volume.fstat(handle).size, 1048576)

    def test_against_a_model(self):
        for seed in range(60):
            self.check_file(random.Random(seed), LAYOUTS[seed % 3])

    def check_file(self, chance, layout):
        node, model, size = PlainNode("file"), FileModel(layout, set()), layout.block_size
        for _ in range(20):
            at, count = chance.choice((chance.randrange(600), chance.randrange(5000))), chance.randrange(3 * size)
            draw = chance.random()
            if draw < 0.5:
                octets = [chance.randrange(256) for _ in range(count)]
                write_octets(node, size, at, octets)
                model.write(at, octets)
            elif draw < 0.7:
                truncate_octets(node, size, at)
                model.truncate(at)
            else:
                punch_octets(node, size, at, at + count)
                model.punch(at, at + count)
            self.assertEqual((node.size, node.blocks), (model.size, model.tree.data))
            for place in (at, chance.randrange(6000)):
                self.assertEqual(read_octets(node, size, place, count), model.read(place, count))
                self.assertEqual(next_data_in(node, size, place), model.next_data(place))
                self.assertEqual(next_hole_in(node, size, place), model.next_hole(place))

    def test_ranges(self):
        volume = PlainVolume(LEAST)
        handle = volume.create("/a")
        for call, args in ((volume.read, (1048577, 1)), (volume.read, (0, 65537)), (volume.write, (1048577, [])),
                           (volume.truncate, (1048577,)), (volume.punch, (1048577, 0)), (volume.punch, (0, 1048577)),
                           (volume.next_data, (1048577,)), (volume.next_hole, (1048577,)), (volume.reserve, (60001,))):
            self.refused(errors.OutOfRange, call, handle, *args)
            for number in (-1, 1, 16):
                self.refused(errors.BadHandle, call, number, *args)
        self.refused(errors.OutOfRange, volume.open_file, "/none", access="all")

    def test_bad_handles(self):
        volume = PlainVolume(LEAST)
        volume.create("/a")
        before = self.state(volume)
        for number in (-1, 1, 16, 100, GREAT, -GREAT):
            for call, *args in ((volume.close,), (volume.fstat,), (volume.read, 0, 1), (volume.write, 0, [1]),
                                (volume.truncate, 0), (volume.punch, 0, 1), (volume.next_data, 0),
                                (volume.next_hole, 0), (volume.reserve, 1)):
                self.refused(errors.BadHandle, call, number, *args)
        self.assertEqual(self.state(volume), before)

    def test_access(self):
        volume = PlainVolume(LEAST)
        volume.create("/a")
        volume.open_file("/a")
        volume.open_file("/a", access="write")
        for call, args in ((volume.write, (0, [1])), (volume.truncate, (0,)), (volume.punch, (0, 1)),
                           (volume.reserve, (1,))):
            self.refused(errors.BadHandle, call, 1, *args)
            call(2, *args)
        for call, args in ((volume.read, (0, 1)), (volume.next_data, (0,)), (volume.next_hole, (0,))):
            self.refused(errors.BadHandle, call, 2, *args)
            call(1, *args)

    def test_too_many_open(self):
        volume = PlainVolume(MIDDLE)
        self.assertEqual([volume.create(f"/{number}") for number in range(16)], list(range(16)))
        self.refused(errors.TooManyOpen, volume.create, "/0")
        self.refused(errors.TooManyOpen, volume.create, "/x/y")
        self.refused(errors.InvalidPath, volume.create, "x")
        self.refused(errors.TooManyOpen, volume.open_file, "/0")
        self.refused(errors.NotFound, volume.open_file, "/x")
        volume.close(3)
        self.assertEqual(volume.open_file("/0"), 3)

    def test_close(self):
        volume = PlainVolume(LEAST)
        first = volume.create("/a")
        second = volume.open_file("/a")
        volume.write(first, 0, [1] * 300)
        volume.unlink("/a")
        used = volume.used()
        volume.close(first)
        self.assertEqual(volume.used(), used)
        self.assertIsNone(volume.close(second))
        self.assertEqual(volume.used(), used - 6)
        self.refused(errors.BadHandle, volume.close, second)
        # The number is free again.
        self.assertEqual(volume.fstat(volume.create("/b")).number, 2)


class RoomTest(PlainCase):
    def test_limit_that_is_just_met_and_just_missed(self):
        volume = PlainVolume(LEAST)
        handle = volume.create("/a")
        self.assertEqual(volume.write(handle, 0, [1] * 64 * 40), 64 * 26)
        self.assertEqual(volume.used(), 30)
        self.refused(errors.NoRoom, volume.write, handle, 64 * 26, [1])
        volume.mkdir("/d")
        self.refused(errors.NoRoom, volume.mkdir, "/e")
        volume.rename("/d", "/e")
        self.assertEqual(volume.write(handle, 64 * 25, [2]), 1)

    def test_reserved_blocks(self):
        volume = PlainVolume(LEAST)
        handle = volume.create("/a")
        volume.reserve(handle, 27)
        self.refused(errors.NoRoom, volume.reserve, handle, 28)
        self.refused(errors.NoRoom, volume.symlink, "x" * 65, "/l")
        self.assertEqual(volume.write(handle, 0, [1] * 64 * 26), 64 * 26)
        volume.truncate(handle, 0)
        self.refused(errors.NoRoom, volume.symlink, "x" * 65, "/l")
        volume.reserve(handle, 24)
        volume.symlink("x" * 65, "/l")
        # What was refused has left the former number in place.
        self.refused(errors.NoRoom, volume.reserve, handle, 25)
        self.refused(errors.NoRoom, volume.symlink, "x", "/m")
        volume.close(handle)
        volume.symlink("x", "/m")

    def full(self):
        """Return a plain volume with more blocks than its limit, which a snapshot let it take."""
        volume = PlainVolume(LEAST)
        handle = volume.create("/a")
        volume.snapshot("x")
        self.assertEqual(volume.write(handle, 0, [1] * 64 * 60), 64 * 60)
        volume.reserve(handle, 60000)
        return volume, handle

    def test_no_errors_while_a_snapshot_stands(self):
        volume, handle = self.full()
        self.assertGreater(volume.used(), 60)
        volume.mkdir("/d")
        volume.snapshot("y")
        volume.drop("x")
        volume.mkdir("/e")
        volume.reserve(handle, 5)

    def test_changes_that_change_nothing_or_free_blocks(self):
        volume, handle = self.full()
        volume.mkdir("/d")
        volume.drop("x")
        for call, *args in ((volume.unlink, "/a"), (volume.rename, "/a", "/a"), (volume.rmdir, "/d"),
                            (volume.punch, handle, 0, 64), (volume.truncate, handle, 0), (volume.reserve, handle, 0),
                            (volume.write, handle, 0, [1])):
            self.refused(errors.NoRoom, call, *args)
        self.assertEqual(volume.write(handle, 0, []), 0)
        volume.snapshot("y")
        volume.reserve(handle, 0)
        volume.drop("y")
        self.refused(errors.NoRoom, volume.truncate, handle, 64 * 30)
        volume.truncate(handle, 64 * 20)
        self.assertLess(volume.used(), 30)

    def test_removal_by_close_is_not_refused(self):
        volume, handle = self.full()
        volume.unlink("/a")
        volume.drop("x")
        self.assertGreater(volume.used(), 30)
        volume.close(handle)
        self.assertEqual(volume.used(), 3)


class TransactionsTest(PlainCase):
    def test_commit_and_abort(self):
        volume = PlainVolume(LEAST)
        handle, other = volume.create("/a"), volume.create("/b")
        volume.write(handle, 0, [1])
        volume.reserve(handle, 7)
        volume.unlink("/b")
        for end in ("commit", "abort"):
            before = self.state(volume)
            self.assertIsNone(volume.begin())
            volume.mkdir("/" + end)
            volume.write(handle, 0, [2] * 64 * 15)
            volume.reserve(handle, 2)
            if end == "abort":
                volume.close(handle)
                volume.close(other)
            self.assertIsNone(getattr(volume, end)())
            self.assertEqual(self.state(volume) == before, end == "abort")
        self.assertEqual(volume.listdir("/"), [("a", 2), ("commit", 4)])
        self.assertEqual(volume.fstat(other).links, 0)

    def test_reservations_come_back(self):
        volume = PlainVolume(LEAST)
        handle = volume.create("/a")
        volume.reserve(handle, 27)
        volume.begin()
        volume.reserve(handle, 0)
        volume.symlink("x" * 65, "/l")
        volume.abort()
        self.refused(errors.NoRoom, volume.symlink, "x" * 65, "/l")

    def test_errors(self):
        volume = PlainVolume(LEAST)
        for call in (volume.commit, volume.abort):
            self.refused(errors.NoTransaction, call)
        self.assertIsNone(volume.quiet())
        volume.snapshot("x")
        volume.begin()
        for call, args in ((volume.quiet, ()), (volume.begin, ()), (volume.snapshot, ("y",)), (volume.snapshot, ("x",)),
                           (volume.drop, ("x",)), (volume.drop, ("y",))):
            self.refused(errors.Busy, call, *args)
        for call in (volume.snapshot, volume.drop):
            self.refused(errors.InvalidName, call, "%")
        volume.abort()
        for call in (volume.commit, volume.abort):
            self.refused(errors.NoTransaction, call)

    def test_no_transaction_is_too_large(self):
        volume = PlainVolume(WIDE)
        handle = volume.create("/a")
        volume.begin()
        self.assertEqual(volume.write(handle, 0, [1] * 64 * 50), 64 * 50)
        volume.commit()


class SnapshotsTest(PlainCase):
    def test_snapshots_stay(self):
        volume = PlainVolume(MIDDLE)
        handle = volume.create("/a")
        volume.write(handle, 0, [1, 2])
        volume.snapshot("x")
        before = volume.rows_in("x")
        volume.write(handle, 0, [3])
        volume.unlink("/a")
        volume.mkdir("/d")
        volume.snapshot("y")
        self.assertEqual(volume.rows_in("x"), before)
        self.assertEqual(before[1], ("/a", 2, "file", 1, 2, 1, [(0, [1, 2])]))
        self.assertEqual([row[0] for row in volume.rows_in("y")], ["", "/d"])

    def test_slots(self):
        volume = PlainVolume(LEAST)
        for name in "abc":
            self.assertIsNone(volume.snapshot(name))
        self.refused(errors.NoRoom, volume.snapshot, "d")
        self.refused(errors.AlreadyExists, volume.snapshot, "c")
        self.assertIsNone(volume.drop("b"))
        self.refused(errors.NotFound, volume.drop, "b")
        self.refused(errors.NotFound, volume.rows_in, "b")
        volume.snapshot("d")
        self.assertEqual(volume.snapshots(), ["a", "d", "c"])
        for name in ("", "x" * 13, "a b"):
            for call in (volume.snapshot, volume.drop, volume.rows_in):
                self.refused(errors.InvalidName, call, name)


class ForkTest(PlainCase):
    def calls(self, volume):
        volume.write(0, 0, [9] * 200)
        volume.reserve(0, 1)
        volume.mkdir("/z")
        volume.unlink("/b")
        volume.close(1)
        volume.create("/y")

    def volume(self):
        volume = PlainVolume(LEAST)
        for name in "ab":
            volume.create("/" + name)
        volume.snapshot("x")
        return volume

    def test_fork(self):
        for in_transaction in (False, True):
            for first in (False, True):
                volume = self.volume()
                if in_transaction:
                    volume.begin()
                    volume.mkdir("/t")
                twin = volume.fork()
                changed, kept = (volume, twin) if first else (twin, volume)
                before = self.state(kept)
                self.assertEqual(self.state(changed), before)
                self.calls(changed)
                if in_transaction:
                    changed.abort()
                    self.calls(changed)
                changed.drop("x")
                changed.snapshot("y")
                self.assertEqual(self.state(kept), before)
                if in_transaction:
                    kept.abort()
                self.assertEqual(kept.snapshots(), ["x"])
                self.calls(kept)

    def test_handles_at_the_beginning_of_a_transaction(self):
        volume = self.volume()
        volume.drop("x")
        volume.reserve(0, 20)
        volume.begin()
        twin = volume.fork()
        twin.abort()
        twin.reserve(0, 0)
        twin.close(1)
        volume.abort()
        self.assertEqual(volume.fstat(1).number, 3)
        self.refused(errors.NoRoom, volume.symlink, "x" * 200, "/l")
        self.assertIs(twin.layout, volume.layout)


class RemountedTest(PlainCase):
    def test_files_without_names(self):
        volume = PlainVolume(MIDDLE)
        for name in "abc":
            volume.write(volume.create("/" + name), 0, [1] * 200)
        volume.open_file("/b")
        volume.unlink("/a")
        volume.snapshot("x")
        volume.unlink("/b")
        before = self.state(volume)
        again = volume.remounted()
        self.assertEqual(self.state(volume), before)
        self.assertEqual(again.rows(), volume.rows())
        self.assertEqual(again.used(), volume.used() - 6)
        self.assertEqual((again.snapshots(), again.rows_in("x")), (["x"], volume.rows_in("x")))
        for handle in range(4):
            self.refused(errors.BadHandle, again.fstat, handle)
        again.mkdir("/d")
        again.drop("x")
        self.assertEqual(self.state(volume), before)

    def test_open_transaction(self):
        volume = PlainVolume(LEAST)
        handle = volume.create("/a")
        volume.begin()
        volume.mkdir("/d")
        volume.unlink("/a")
        volume.close(handle)
        again = volume.remounted()
        self.assertEqual([row[0] for row in again.rows()], ["", "/a"])
        self.refused(errors.NoTransaction, again.commit)
        self.assertEqual([row[0] for row in volume.rows()], ["", "/d"])
        volume.commit()
        self.assertEqual(again.create("/b"), 0)

    def test_reservations_are_gone(self):
        volume = PlainVolume(LEAST)
        volume.reserve(volume.create("/a"), 27)
        again = volume.remounted()
        again.symlink("x" * 200, "/l")


if __name__ == "__main__":
    unittest.main()
