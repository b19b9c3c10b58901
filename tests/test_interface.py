"""The names and arguments of the interface, for the parts from directories on."""

import importlib
import inspect
import unittest

FUNCTIONS = """
nodes.directories: is_name(text); encode_entry(name, number); decode_entry(octets); places(nodes, number)
nodes.directories: entries(nodes, number); find_entry(nodes, number, name); add_entry(nodes, number, name, target)
nodes.directories: change_entry(nodes, number, name, target); remove_entry(nodes, number, name)
nodes.directories: link_text(nodes, number); write_link_text(nodes, number, text)
names.paths: Path(parts, closed); read_path(text); read_target(text)
names.ways: Way(directory, name, number); follow(nodes, path, *, follow_last); node_at(nodes, path, *, follow_last)
names.ways: new_name_at(nodes, path)
names.changes: mkdir(nodes, text); create(nodes, text); symlink(nodes, target, text); link(nodes, text, new_text)
names.changes: unlink(nodes, text, opened); rmdir(nodes, text); release_name(nodes, number, opened)
names.renaming: rename(nodes, text, new_text, opened); lies_below(nodes, number, other)
names.questions: Info(number, kind, links, size, block_total); stat_of(nodes, number)
names.questions: stat(nodes, text, *, follow_last=True); readlink(nodes, text); readdir(nodes, text)
names.questions: file_at(nodes, text)
volume.volume: new_device(layout); mount(device, *, cut=None)
checker.names: names_fault(nodes)
checker.check: check(device)
differences.ways: ways_below(nodes, number); path_of(way)
differences.compare: walk_list(nodes, number); alike(first, number, second, other); differences(first, second)
plain.volume: PlainVolume(layout)
"""
SHARED = """
mkdir(path); create(path); symlink(target, path); link(path, new_path); unlink(path); rmdir(path)
rename(path, new_path); open_file(path, *, access='read'); close(handle); read(handle, at, count)
write(handle, at, octets); truncate(handle, size); punch(handle, at, count); next_data(handle, at)
next_hole(handle, at); reserve(handle, blocks); fstat(handle); stat(path); lstat(path); readlink(path); listdir(path)
walk(path); begin(); commit(); abort(); snapshot(name); drop(name); snapshots(); rows(); rows_in(name)
"""
OF_VOLUMES = """
sync(); checkpoint(); clean(*, policy='greedy', passes=1); set_policy(policy); stat_in(name, path)
list_in(name, path); readlink_in(name, path); read_in(name, path, at, count); differences(first, second); room()
segment_report(); statistics(); pending(); was_cut(); cut_after(count); crash(kept, *, torn=()); unmount()
"""
OF_PLAIN_VOLUMES = """
quiet(); used(); fork(); remounted()
"""


def calls_in(text):
    """Return the name and the arguments of each call that a text lists."""
    return [call[:-1].split("(", 1) for line in text.strip().split("\n") for call in line.split("; ")]


class InterfaceTest(unittest.TestCase):
    def check(self, holder, name, arguments, skipped):
        self.assertIn(name, vars(holder))
        found = vars(holder)[name]
        parameters = list(inspect.signature(found).parameters.values())[skipped:]
        self.assertEqual(str(inspect.Signature(parameters)), f"({arguments})", name)
        return found

    def test_functions_and_classes(self):
        for line in FUNCTIONS.strip().split("\n"):
            home, text = line.split(": ", 1)
            module = importlib.import_module("segmentfs." + home)
            for name, arguments in calls_in(text):
                found = self.check(module, name, arguments, 0)
                # It is defined in this file, not imported into it.
                self.assertEqual(found.__module__, module.__name__)

    def test_methods(self):
        for home, name, texts in (("volume.volume", "Volume", SHARED + OF_VOLUMES.lstrip()),
                                  ("plain.volume", "PlainVolume", SHARED + OF_PLAIN_VOLUMES.lstrip())):
            found = vars(importlib.import_module("segmentfs." + home))[name]
            for method, arguments in calls_in(texts):
                self.check(found, method, arguments, 1)

    def test_constants(self):
        for home, values in (
                ("nodes.directories", {"ENTRY_OCTETS": 32, "MOST_SIGNS": 28}),
                ("names.paths", {"MOST_NAME": 28, "MOST_PATH": 200, "MOST_NAMES": 16, "MOST_FOLLOWED": 8,
                                 "MOST_LINKS": 40})):
            module = importlib.import_module("segmentfs." + home)
            for name, value in values.items():
                self.assertEqual(vars(module)[name], value)


if __name__ == "__main__":
    unittest.main()
