"""Nodes and a plain model of them that get the same changes and are compared behind each of them."""

from helpers import LEAST
from namesmodel import NamesModel, random_path, random_target
from segmentfs import errors
from segmentfs.checker.files import files_fault
from segmentfs.names import changes
from segmentfs.nodes.directories import decode_entry, encode_entry
from segmentfs.nodes.inodes import DIRECTORY, FILE, LINK
from segmentfs.nodes.nodes import drop_node, new_nodes, write_node
from segmentfs.trees.files import file_ids, read_file

WITH_OPENED = ("unlink", "rename")
GROWS = ("mkdir", "create", "symlink", "link")


def outcome(call, *args):
    """Return what a call returns, or the class of its error."""
    try:
        return call(*args)
    except errors.SegmentError as error:
        return type(error)


def octets_of(nodes, number):
    return read_file(nodes.store, nodes.get(number), at=0, count=2 ** 20)


def unsound(nodes, opened):
    """Return what is wrong by point 109, or None; it looks at the octets alone."""
    names, directories = {}, {}
    for number in nodes.numbers_in_use():
        if nodes.get(number).kind == DIRECTORY:
            octets = octets_of(nodes, number)
            rows = [octets[start:start + 32] for start in range(0, len(octets), 32)]
            found = [decode_entry(row) for row in rows if any(row)]
            if None in found or len(set(name for name, _ in found)) != len(found):
                return ("entries", number)
            directories[number] = found
    for number, found in directories.items():
        for name, target in found:
            names.setdefault(target, []).append(number)
    if any(nodes.get(target) is None for target in names) or 1 in names:
        return ("numbers", sorted(names))
    reached = [1]
    for number in reached:
        reached += [target for _, target in directories[number] if target in directories and target not in reached]
    for number in nodes.numbers_in_use():
        inode, count = nodes.get(number), len(names.get(number, []))
        if number == 1 and (inode.kind != DIRECTORY or inode.parent != 1):
            return ("root", number)
        if inode.kind == DIRECTORY and inode.links != 1:
            return ("count", number)
        if inode.kind == DIRECTORY and number != 1 and (names.get(number) != [inode.parent] or number not in reached):
            return ("directory", number)
        if inode.kind != DIRECTORY and (inode.links != count or inode.parent != 0):
            return ("names", number)
        if inode.kind != DIRECTORY and count == 0 and (number not in opened or inode.kind != FILE):
            return ("no name", number)
    return None


class Pair:
    """Nodes and their model."""

    def __init__(self, test, layout=LEAST):
        self.test = test
        self.layout = layout
        self.nodes = new_nodes(layout)
        self.model = NamesModel()
        self.opened = []
        self.calls = {name: getattr(changes, name) for name in (
            "mkdir", "create", "symlink", "link", "unlink", "rmdir")}

    def run(self, name, *args):
        """Make a change of both, and return what it returned, or the class of its error."""
        opened = list(self.opened)
        if name in WITH_OPENED:
            args += (opened,)
        before = dict(self.nodes.store.blocks)
        fork = self.nodes.fork()
        found = outcome(self.calls[name], fork, *args)
        self.test.assertEqual(found, outcome(getattr(self.model, name), *args), (name, args))
        self.test.assertEqual(opened, self.opened)
        self.test.assertEqual(self.nodes.store.blocks, before)
        if not isinstance(found, type):
            self.nodes = fork
        self.check(before)
        return found

    def check(self, before):
        self.test.assertEqual(self.rows(), self.model.rows())
        self.test.assertIsNone(unsound(self.nodes, self.opened))
        self.test.assertIsNone(files_fault(self.layout, self.nodes.store.blocks))
        changed = [ident for ident, payload in self.nodes.store.blocks.items() if before.get(ident) != payload]
        self.test.assertLessEqual(len(changed), 15)

    def rows(self):
        """Return the nodes as the model tells them."""
        rows = {}
        for number in self.nodes.numbers_in_use():
            inode, octets = self.nodes.get(number), octets_of(self.nodes, number)
            places, text = [], ""
            if inode.kind == DIRECTORY:
                pieces = [octets[start:start + 32] for start in range(0, len(octets), 32)]
                places, octets = [decode_entry(piece) for piece in pieces], []
                self.test.assertEqual(pieces, [encode_entry(*place) if place else [0] * 32 for place in places])
            if inode.kind == LINK:
                text, octets = "".join(chr(octet) for octet in octets), []
            rows[number] = (inode.kind, inode.links, inode.parent, places, text, octets)
        return rows

    def write(self, number, octets):
        write_node(self.nodes, number, 0, octets)
        self.model.nodes[number].octets[:len(octets)] = octets

    def put(self, number, links):
        """Give a node so many names in both, without any entries."""
        inode = self.nodes.get(number)
        inode.links = links
        self.nodes.put(number, inode)
        self.model.nodes[number].links = links

    def ids(self, number):
        return file_ids(self.nodes.store, self.nodes.get(number))

    def close(self, number):
        """Take a number from the open files, and the node away if it has no name."""
        self.opened.remove(number)
        if self.model.nodes[number].links == 0 and number not in self.opened:
            del self.model.nodes[number]
            drop_node(self.nodes, number)


def random_step(chance, pair):
    """Make a random change of a pair."""
    model = pair.model
    draw = chance.random()
    files = [number for number, node in model.nodes.items() if node.kind == 1]
    if draw < 0.06 and pair.opened:
        pair.close(chance.choice(pair.opened))
        return
    if draw < 0.12 and files:
        pair.opened.append(chance.choice(files))
        return
    if draw < 0.2 and files:
        pair.write(chance.choice(files), [chance.randrange(256)] * chance.randrange(100))
        return
    name = chance.choice(list(pair.calls) if len(model.nodes) > 16 else GROWS + tuple(pair.calls))
    pair.run(name, *random_args(chance, model, name))


def random_args(chance, model, name):
    """Return arguments for a change."""
    if name == "symlink":
        return (random_target(chance, model), random_path(chance, model, "new"))
    if name == "link":
        return (random_path(chance, model, "other"), random_path(chance, model, "new"))
    if name == "rename":
        return (random_path(chance, model), random_path(chance, model))
    wanted = {"mkdir": "new", "create": "new", "unlink": "other", "rmdir": "directory"}[name]
    return (random_path(chance, model, wanted),)
