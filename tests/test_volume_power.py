"""Points 8, 9, 11, 12, 125 and 127: power cuts behind each command, and crashes that keep, tear and lose writes."""

import itertools
import random
import unittest

from helpers import LEAST, MIDDLE
from segmentfs import errors
from segmentfs.checker.check import check
from segmentfs.geometry.layout import Layout
from segmentfs.volume.volume import mount, new_device

# Calls whose history has changes, transactions, snapshots and cleaning; a text is written as octets.
CALLS = (
    ("mkdir", "/d"), ("create", "/d/a"), ("write", 0, 0, [1] * 200), ("sync",), ("symlink", "d/a", "/l"),
    ("rename", "/d/a", "/b"), ("snapshot", "one"), ("write", 0, 100, [2] * 300), ("begin",), ("create", "/c"),
    ("unlink", "/b"), ("write", 1, 0, [3] * 100), ("commit",), ("checkpoint",), ("mkdir", "/e"), ("drop", "one"),
    ("close", 0), ("begin",), ("rmdir", "/e"), ("abort",), ("clean",), ("truncate", 1, 10), ("snapshot", "two"),
    ("link", "/c", "/d/x"), ("punch", 1, 0, 5), ("rename", "/d", "/f"), ("sync",), ("unlink", "/l"),
    ("write", 1, 60, [4] * 2000), ("drop", "two"), ("rename", "/c", "/f/y"), ("unlink", "/f/x"))
# Calls behind which everything is sure.
SURE = ("sync", "checkpoint", "clean")


def tree_of(volume):
    return (volume.rows(), [(name, volume.rows_in(name)) for name in volume.snapshots()])


def states_behind(volume, call):
    """Make a call, and return the states behind its changes."""
    name, args = call[0], call[1:]
    if name != "write":
        getattr(volume, name)(*args)
        return [tree_of(volume)]
    handle, at, octets = args
    states = []
    for piece in pieces(volume._memory.log.layout.block_size, at, octets):
        assert volume.write(handle, *piece) == len(piece[1])
        states.append(tree_of(volume))
    return states


def pieces(size, at, octets):
    while octets:
        most = 2 * size - at % size
        yield at, octets[:most]
        at, octets = at + most, octets[most:]


class History:
    """The states behind the changes of some calls, and how many of them are sure behind each call."""

    def __init__(self, layout):
        volume = mount(new_device(layout))
        self.first = self.count(volume)
        self.states = [tree_of(volume)]
        self.ends = []
        self.commands = []
        in_transaction = False
        for call in CALLS:
            found = states_behind(volume, call)
            in_transaction = call[0] == "begin" or (in_transaction and call[0] not in ("commit", "abort"))
            if not in_transaction:
                self.states += found
            self.ends.append(len(self.states))
            self.commands.append(self.count(volume))

    def count(self, volume):
        """Return how many commands the device had."""
        counts = volume.statistics()
        return counts[1] + counts[3] + counts[5] + counts[6]

    def least(self, cut):
        """Return the least state that a crash can lead back to, if so many commands took place."""
        least = 0
        for call, end, commands in zip(CALLS, self.ends, self.commands):
            if call[0] in SURE and commands - self.first <= cut:
                least = end - 1
        return least


def choices(chance, pending):
    """Return some choices of writes that are kept and torn: all of them where there are few."""
    if pending <= 3:
        fates = list(itertools.product("klt", repeat=pending))
    else:
        fates = ["k" * pending, "l" * pending, "k" * (pending - 1) + "t"]
        for end in (chance.randrange(pending), chance.randrange(pending)):
            fates += ["k" * end + "l" * (pending - end), "k" * end + "t" + "k" * (pending - end - 1)]
        fates += [chance.choices("kkkklt", k=pending) for _ in range(2)]
    for row in fates:
        yield ([place for place, fate in enumerate(row) if fate == "k"],
               [place for place, fate in enumerate(row) if fate == "t"])


class PowerTest(unittest.TestCase):
    def check_left(self, device, states, least=0):
        """Check what a crash left: it can be mounted, and its state is one of the history; return which one."""
        self.assertIsNone(check(device))
        found = tree_of(mount(device))
        fitting = [place for place, state in enumerate(states) if state == found and place >= least]
        self.assertTrue(fitting, (found, least))
        return fitting[-1]

    def test_cut_behind_each_command(self):
        layout = Layout(6, 16, 64)
        history = History(layout)
        total = history.commands[-1] - history.first
        reached = set()
        for cut in range(total + 2):
            chance = random.Random(cut)
            volume = mount(new_device(layout))
            volume.cut_after(cut)
            for call in CALLS:
                getattr(volume, call[0])(*call[1:])
            self.assertEqual(tree_of(volume), history.states[-1])
            self.assertEqual(volume.was_cut(), cut < total)
            for kept, torn in choices(chance, volume.pending()):
                reached.add(self.check_left(volume.crash(kept, torn=torn), history.states, history.least(cut)))
        self.assertGreaterEqual(len(reached), 10)

    def test_each_pending_write(self):
        volume = mount(new_device(LEAST))
        volume.create("/a")
        volume.sync()
        states = [tree_of(volume)]
        for call in (("snapshot", "x"), ("mkdir", "/d"), ("snapshot", "y"), ("drop", "x")):
            states += states_behind(volume, call)
        pending = volume.pending()
        self.assertEqual(pending, 2 + 4 + 2)
        for fates in itertools.product("klt", repeat=pending):
            if fates.count("t") > 1:
                continue
            kept = [place for place, fate in enumerate(fates) if fate == "k"]
            torn = [place for place, fate in enumerate(fates) if fate == "t"]
            # Whole batches count, from the first one on: 2 writes, then 4, then 2.
            ends = [place for place, end in ((4, 8), (3, 6), (1, 2), (0, 0)) if set(range(end)) <= set(kept)]
            device = volume.crash(kept, torn=torn)
            self.assertIsNone(check(device))
            found = mount(device)
            self.assertEqual((found.rows(), found.snapshots()), self.expected(states[ends[0]]))

    def expected(self, state):
        return (state[0], [name for name, _ in state[1]])

    def test_cuts_within_cleaning(self):
        for policy in ("greedy", "oldest", "cost-benefit"):
            self.check_cleaning(policy)

    def cluttered(self):
        """Return a volume with several candidates, of which everything is sure."""
        volume = mount(new_device(LEAST))
        for name in "abc":
            volume.create("/" + name)
        volume.snapshot("x")
        for turn in range(9):
            volume.write(turn % 3, 0, [turn] * 70)
            volume.sync()
        return volume

    def check_cleaning(self, policy):
        whole = self.cluttered()
        before = whole.statistics()
        whole.clean(policy=policy, passes=5)
        self.assertGreater(whole.statistics()[2], before[2])
        total = sum(whole.statistics()[place] - before[place] for place in (1, 3, 5, 6))
        for cut in range(total + 1):
            volume = self.cluttered()
            state = tree_of(volume)
            volume.cut_after(cut)
            volume.clean(policy=policy, passes=5)
            self.assertEqual(tree_of(volume), state)
            for kept, torn in choices(random.Random(cut), volume.pending()):
                self.check_left(volume.crash(kept, torn=torn), [state])

    def test_cuts_within_mounting(self):
        volume = self.cluttered()
        for name in "ab":
            volume.unlink("/" + name)
        volume.snapshot("y")
        volume.mkdir("/d")
        volume.sync()
        device = volume.crash([])
        state = tree_of(mount(device))
        self.assertEqual([row[0] for row in state[0]], ["", "/c", "/d"])
        for cut in range(12):
            again = mount(device, cut=cut)
            self.assertEqual((tree_of(again), again.was_cut()), (state, cut < 8))
            for kept, torn in choices(random.Random(cut), again.pending()):
                left = again.crash(kept, torn=torn)
                self.check_left(left, [state])
                # And once more, with a cut within the second mounting.
                third = mount(left, cut=cut % 8)
                self.check_left(third.crash(range(third.pending() // 2), torn=[third.pending() // 2]), [state])

    def test_files_without_names_in_a_full_volume(self):
        for layout in (LEAST, MIDDLE):
            volume = mount(new_device(layout))
            handle = volume.create("/a")
            other = volume.create("/b")
            volume.write(other, 0, [2] * 130)
            self.assertLess(volume.write(handle, 0, [1] * layout.block_size * layout.limit),
                            layout.block_size * layout.limit)
            volume.unlink("/a")
            volume.sync()
            again = mount(volume.crash([]))
            self.assertEqual(again.room()["used"], again.room()["need"])
            self.assertLess(again.room()["used"], 10)
            for cut in range(30):
                again = mount(volume.crash([]), cut=cut)
                again.write(again.create("/c"), 0, [3] * layout.block_size * 15)
                again.sync()
                for kept, torn in choices(random.Random(cut), again.pending()):
                    device = again.crash(kept, torn=torn)
                    self.assertIsNone(check(device))
                    self.assertEqual(mount(device).stat("/b").size, 130)
            with self.assertRaises(errors.NotFound):
                again.stat("/a")
            # The file is still open when the full volume is unmounted.
            self.assertGreater(volume.room()["used"], layout.limit - 2)
            device = volume.unmount()
            self.assertIsNone(check(device))
            self.assertLess(mount(device).room()["need"], 10)
            self.assertEqual(mount(device).room()["waiting"], 0)

    def test_transaction_is_whole_or_not_at_all(self):
        volume = mount(new_device(LEAST))
        volume.sync()
        volume.begin()
        for name in "abcde":
            volume.symlink("x", "/" + name)
        volume.commit()
        counts = set()
        for kept, torn in choices(random.Random(1), volume.pending()):
            counts.add(len(mount(volume.crash(kept, torn=torn)).listdir("/")))
        self.assertEqual(counts, {0, 5})

    def test_a_crash_can_undo_taking_and_dropping(self):
        volume = mount(new_device(LEAST))
        volume.create("/a")
        volume.snapshot("x")
        volume.sync()
        rows = volume.rows_in("x")
        volume.unlink("/a")
        volume.drop("x")
        volume.mkdir("/d")
        volume.snapshot("x")
        left = mount(volume.crash([]))
        self.assertEqual((left.snapshots(), left.rows_in("x"), left.rows()), (["x"], rows, rows))
        left = mount(volume.crash(range(volume.pending())))
        self.assertEqual((left.snapshots(), left.rows_in("x")), (["x"], volume.rows()))


if __name__ == "__main__":
    unittest.main()
