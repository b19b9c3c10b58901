"""A volume and a plain volume that get the same calls, with crashes and mountings between them."""

from segmentfs import errors
from segmentfs.checker.check import check
from segmentfs.names.paths import read_path
from segmentfs.names.questions import Info
from segmentfs.plain.volume import PlainVolume
from segmentfs.room.policies import POLICIES
from segmentfs.volume.volume import mount, new_device

NAMES = ("a", "b", "c", "d", "ab", "a-", "e e")
FIELDS = ("number", "kind", "links", "size", "block_total")
CHANGES = ("mkdir", "create", "symlink", "link", "unlink", "rmdir", "rename", "truncate", "punch", "write", "close",
           "open_file", "reserve", "snapshot", "drop", "begin", "commit", "abort")


def fields(value):
    """Return a value with each Info in it as a tuple."""
    if isinstance(value, Info):
        return tuple(getattr(value, name) for name in FIELDS)
    if isinstance(value, (list, tuple)):
        return type(value)(fields(each) for each in value)
    return value


def outcome(volume, name, args, keywords):
    """Return what a call returns, or the class of its error."""
    try:
        return fields(getattr(volume, name)(*args, **keywords))
    except errors.SegmentError as error:
        return type(error)


def tree_of(volume):
    """Return the rows of the present tree and of all snapshots."""
    return (volume.rows(), [(name, volume.rows_in(name)) for name in volume.snapshots()])


class VolumePair:
    """A volume and its plain volume, and the states to which a crash can lead back."""

    def __init__(self, test, layout, device=None):
        self.test = test
        self.layout = layout
        self.volume = mount(new_device(layout) if device is None else device)
        self.plain = PlainVolume(layout)
        self.in_transaction = False
        # Files whose removal was refused; a plain volume has none.
        self.refused = 0
        self.caught_up = 0
        self.counts = {}
        self.forget()

    def forget(self):
        """From here on a crash leads back to the present state or to a later one."""
        self.history = [self.plain.remounted()]
        self.least = 0

    # Calls

    def call(self, name, *args, **keywords):
        """Make a call of both, compare what they return or raise, and return it."""
        former = self.plain.fork()
        snapshots = self.volume.snapshots()
        found = outcome(self.volume, name, args, keywords)
        expected = outcome(self.plain, name, args, keywords)
        key = (name, found.__name__ if isinstance(found, type) else "done")
        self.counts[key] = self.counts.get(key, 0) + 1
        if found != expected:
            self.check_refused(former, snapshots, name, args, found, expected)
        self.in_transaction = name == "begin" or (self.in_transaction and name not in ("commit", "abort"))
        self.compare(name, snapshots)
        if name == "write" and isinstance(found, int) and not self.in_transaction:
            self.note_pieces(former, args[0], args[1], args[2][:found])
        elif name in CHANGES and not self.in_transaction:
            self.history.append(self.plain.remounted())
        return found

    def note_pieces(self, plain, handle, at, octets):
        """Put the state behind each piece of a write into the history."""
        end = at + len(octets)
        while at < end:
            most = 2 * self.layout.block_size - at % self.layout.block_size
            piece, octets = octets[:most], octets[most:]
            self.test.assertEqual(plain.write(handle, at, piece), len(piece))
            at += len(piece)
            self.history.append(plain.remounted())
        self.test.assertEqual(plain.rows(), self.plain.rows())

    def check_refused(self, former, snapshots, name, args, found, expected):
        """Take back what the plain volume did and the volume refused."""
        what = (name, args, found, expected)
        may_refuse = (errors.NoRoom,) if snapshots else ()
        if self.in_transaction:
            may_refuse += (errors.TransactionTooLarge,)
        if name == "write" and isinstance(found, int) and may_refuse:
            self.test.assertIsInstance(expected, int, what)
            self.test.assertLess(found, expected, what)
            self.plain = former
            handle, at, octets = args
            self.test.assertEqual(self.plain.write(handle, at, octets[:found]), found)
            return
        self.test.assertIn(found, may_refuse, what)
        self.plain = former

    def nameless(self):
        """Return how many files the volume has that the plain volume does not have, as their removal was refused."""
        return len(self.volume._memory.nodes.numbers_in_use()) - len(self.plain._tree.numbers())

    def compare(self, name, snapshots):
        former, self.refused = self.refused, self.nameless()
        if self.refused > former:
            self.test.assertEqual(name, "close")
            self.test.assertTrue(snapshots or self.in_transaction)
        if self.refused == 0:
            self.test.assertEqual(self.volume.room()["used"], self.plain.used())
        self.test.assertEqual(self.volume.rows(), self.plain.rows())

    def quiet(self, name, **keywords):
        """Make a call that changes no tree, no snapshot and no open file."""
        before = tree_of(self.volume)
        found = outcome(self.volume, name, (), keywords)
        expected = outcome(self.plain, "quiet", (), {})
        if self.in_transaction:
            self.test.assertEqual((found, expected), (errors.Busy, errors.Busy))
            return
        self.test.assertEqual(tree_of(self.volume), before)
        self.test.assertEqual(self.volume.room()["waiting"], 0)
        if not self.volume.was_cut():
            self.history = self.history[-1:]
            self.test.assertEqual(self.volume.pending(), 0)

    def check_room(self):
        room = self.volume.room()
        self.test.assertLessEqual(room["need"] + room["reserved"], room["limit"])
        live = sum(row[1] for row in self.volume.segment_report())
        self.test.assertLessEqual(live, room["limit"])

    # Crashes

    def states_left(self, device, cut):
        """Return the states of the history that a device that a crash left can be in; check that it is in one."""
        self.test.assertIsNone(check(device))
        volume = mount(device, cut=cut)
        found = tree_of(volume)
        states = [place for place, state in enumerate(self.history) if tree_of(state) == found]
        self.test.assertTrue(states)
        if not self.refused and not volume.snapshots():
            states = [place for place in states if self.history[place].used() == volume.room()["used"]]
            self.test.assertTrue(states)
        return states, volume

    def go_on(self, device, cut=None):
        """Go on with a mounted device in place of the volume."""
        states, self.volume = self.states_left(device, cut)
        self.plain = self.history[states[-1]].fork()
        # A file without names stays where there was no room for its removal.
        self.refused = self.nameless()
        self.in_transaction = False
        self.forget()

    def crash_writes(self, chance):
        """Return random writes that are kept, and others that are torn."""
        pending = self.volume.pending()
        draw = chance.random()
        if draw < 0.25:
            return list(range(pending)), []
        if draw < 0.5:
            end = chance.randrange(pending + 1)
            return list(range(end)), [end]
        share = chance.choice((0.5, 0.9, 0.97))
        kept = [place for place in range(pending) if chance.random() < share]
        torn = [place for place in range(pending) if chance.random() < 0.05]
        return kept, torn


def random_path(chance, pair, wanted):
    """Return the path of a node, or that of a new name ("new")."""
    rows = pair.plain.rows()
    if wanted == "new":
        base = chance.choice([row[0] for row in rows if row[2] == "directory"])
        text = base + "/" + chance.choice(NAMES)
    else:
        fitting = [row[0] for row in rows if row[2] == wanted or wanted == "any"]
        text = chance.choice(fitting or [""]) or "/"
    if chance.random() < 0.1:
        text = chance.choice((text + "/", text + "/x", "/.." + text, text + "/..", text + "/.", text[1:], ""))
    try:
        read_path(text)
    except errors.SegmentError:
        if chance.random() < 0.9:
            return "/" + chance.choice(NAMES)
    return text


def random_octets(chance, layout):
    most = chance.choice((5, 100, layout.block_size, 5 * layout.block_size))
    return [chance.randrange(256)] * chance.randrange(most)


def random_offset(chance, layout):
    return chance.choice((0, chance.randrange(200), layout.block_size * chance.randrange(6), chance.randrange(3000),
                          chance.randrange(1100000)))


def random_handle(chance, pair):
    """Return a handle, mostly one that is open."""
    handles = [place for place in range(16) if outcome(pair.plain, "fstat", (place,), {}) != errors.BadHandle]
    if not handles or chance.random() < 0.05:
        return chance.randrange(-1, 17)
    return chance.choice(handles)


def random_call(chance, pair):
    """Return the name, the arguments and the keywords of a random call."""
    name = chance.choices(
        ("mkdir", "create", "symlink", "link", "unlink", "rmdir", "rename", "open_file", "close", "write", "truncate",
         "punch", "reserve", "begin", "commit", "abort", "snapshot", "drop", "question"),
        weights=(5, 8, 4, 4, 7, 3, 6, 5, 6, 24, 4, 4, 2, 3, 6, 1, 2, 3, 10))[0]
    handle = random_handle(chance, pair)
    layout = pair.layout
    if name == "question":
        return random_question(chance, pair, handle)
    args, keywords = {
        "mkdir": lambda: (random_path(chance, pair, "new"),),
        "create": lambda: (random_path(chance, pair, "new"),),
        "symlink": lambda: (random_path(chance, pair, "any"), random_path(chance, pair, "new")),
        "link": lambda: (random_path(chance, pair, "file"), random_path(chance, pair, "new")),
        "unlink": lambda: (random_path(chance, pair, chance.choice(("file", "file", "link"))),),
        "rmdir": lambda: (random_path(chance, pair, "directory"),),
        "rename": lambda: (random_path(chance, pair, "any"), random_path(chance, pair, chance.choice(("new", "any")))),
        "open_file": lambda: (random_path(chance, pair, "file"),),
        "close": lambda: (handle,),
        "write": lambda: (handle, random_offset(chance, layout), random_octets(chance, layout)),
        "truncate": lambda: (handle, random_offset(chance, layout)),
        "punch": lambda: (handle, random_offset(chance, layout), random_offset(chance, layout)),
        "reserve": lambda: (handle, chance.choice((0, 1, 3, 5, 10, 70000))),
        "begin": lambda: (), "commit": lambda: (), "abort": lambda: (),
        "snapshot": lambda: (chance.choice(("x", "y", "z", "w", "", "n n")),),
        "drop": lambda: (chance.choice(("x", "y", "z", "w", "")),),
    }[name](), {}
    if name == "open_file":
        keywords = {"access": chance.choice(("read", "write", "both", "both", "none"))}
    return name, args, keywords


def random_question(chance, pair, handle):
    name = chance.choice(("read", "next_data", "next_hole", "fstat", "stat", "lstat", "readlink", "listdir", "walk",
                          "snapshots", "rows_in"))
    at = random_offset(chance, pair.layout)
    if name == "read":
        return name, (handle, at, chance.choice((1, 100, 1000, 70000))), {}
    if name in ("next_data", "next_hole"):
        return name, (handle, at), {}
    if name == "fstat":
        return name, (handle,), {}
    if name == "snapshots":
        return name, (), {}
    if name == "rows_in":
        return name, (chance.choice(("x", "y", "z", "%")),), {}
    return name, (random_path(chance, pair, chance.choice(("any", "any", "new"))),), {}


def run(chance, pair, steps):
    """Make random calls of a pair, with crashes and mountings between them."""
    for _ in range(steps):
        draw = chance.random()
        if draw < 0.03:
            pair.quiet("sync")
        elif draw < 0.04:
            pair.quiet("checkpoint")
        elif draw < 0.05:
            pair.quiet("clean", policy=chance.choice(POLICIES), passes=chance.randrange(1, 5))
        elif draw < 0.055:
            pair.volume.set_policy(chance.choice(POLICIES))
        elif draw < 0.065 and not pair.volume.was_cut():
            pair.volume.cut_after(chance.randrange(60))
        elif draw < 0.075:
            kept, torn = pair.crash_writes(chance)
            cut = chance.randrange(40) if chance.random() < 0.2 else None
            pair.go_on(pair.volume.crash(kept, torn=torn), cut)
        elif draw < 0.08:
            unmount(pair)
        else:
            name, args, keywords = random_call(chance, pair)
            pair.call(name, *args, **keywords)
            pair.check_room()
        if pair.refused:
            catch_up(pair)


def catch_up(pair):
    """Let a removal that was refused succeed: there is room when no snapshot stands."""
    if pair.in_transaction:
        pair.call("commit")
    for name in pair.volume.snapshots():
        pair.call("drop", name)
    unmount(pair)
    pair.test.assertEqual(pair.refused, 0)
    pair.caught_up += 1


def unmount(pair):
    """Unmount the volume and mount it again."""
    expected = pair.plain.remounted()
    device = pair.volume.unmount()
    pair.test.assertIsNone(check(device))
    pair.test.assertEqual(device.pending(), 0)
    pair.history = [expected]
    pair.go_on(device)
