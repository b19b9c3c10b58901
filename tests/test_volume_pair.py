"""Points 7 to 12, 114 and 146: long runs of random calls of a volume beside a plain volume."""

import random
import unittest
from unittest import mock

from helpers import GREATEST, LEAST, MIDDLE
from segmentfs import errors
from segmentfs.geometry.layout import Layout
from segmentfs.log.logs import payload_at
from segmentfs.volume import memory as memory_module
from segmentfs.volume import snapshots as snapshots_module
from volumepair import VolumePair, run

LAYOUTS = (LEAST, MIDDLE, Layout(6, 16, 64), GREATEST, LEAST)


def live_behind(log, results):
    """Return the number of live addresses behind commits that make the contents those of each result in turn."""
    present = list(log.present)
    payloads = {address: payload_at(log, address) for address in present if address}
    fresh = 10 ** 6
    for blocks in results:
        for ident in range(len(present)):
            if ident not in blocks:
                present[ident] = 0
            elif present[ident] == 0 or payloads[present[ident]] != blocks[ident]:
                fresh += 1
                present[ident] = fresh
                payloads[fresh] = blocks[ident]
        # More ids than a table has come with a result that is refused.
        more = [ident for ident in blocks if ident >= len(present)]
        present += [fresh + 1 + place for place in range(len(more))]
    live = set(present)
    for slot in log.slots:
        live |= set(slot or ())
    return len(live - {0})


class Watch:
    """Stands for `check_room`, and compares each answer with the live addresses that the log would have."""

    def __init__(self, test):
        self.test = test
        self.real = memory_module.check_room
        self.answers = {}

    def __call__(self, memory, result, fits):
        blocks, layout = result.store.blocks, memory.log.layout
        held = {ident: payload_at(memory.log, address) for ident, address in enumerate(memory.log.present) if address}
        touched = [ident for ident in blocks if held.get(ident) != blocks[ident]]
        self.test.assertEqual(fits, len(touched) <= layout.payload)
        before = [ident for ident, payload in memory.nodes.store.blocks.items() if held.get(ident) != payload]
        self.test.assertLessEqual(len(set(touched) - set(before)), 15)
        self.test.assertLessEqual(len(before), layout.payload)
        states = [blocks] if fits else [memory.nodes.store.blocks, blocks]
        reserved = 0
        for opened in memory.handles.files:
            if opened is not None:
                reserved += max(0, opened.reserved - self.blocks_of(result, opened.number))
        refused = live_behind(memory.log, states) + reserved > layout.limit
        key = (refused, fits, any(slot is not None for slot in memory.log.slots), reserved > 0)
        self.answers[key] = self.answers.get(key, 0) + 1
        if refused:
            with self.test.assertRaises(errors.NoRoom):
                self.real(memory, result, fits)
        self.real(memory, result, fits)

    def blocks_of(self, nodes, number):
        waiting, count = [(nodes.get(number).root, nodes.get(number).height)], 0
        while waiting:
            ident, height = waiting.pop()
            if ident:
                count += 1
                waiting += [(item, height - 1) for item in nodes.store.get(ident)[1]] if height else []
        return count


class PairTest(unittest.TestCase):
    def run_pairs(self, seeds, steps):
        counts = {}
        for seed in seeds:
            with self.subTest(seed=seed):
                chance = random.Random(seed)
                pair = VolumePair(self, LAYOUTS[seed % len(LAYOUTS)])
                run(chance, pair, steps)
            for key, count in pair.counts.items():
                counts[key] = counts.get(key, 0) + count
        return counts

    def test_random_calls(self):
        counts = self.run_pairs(range(40), 300)
        for key in (("write", "NoRoom"), ("write", "TransactionTooLarge"), ("create", "NoRoom"), ("commit", "done"),
                    ("abort", "done"), ("snapshot", "done"), ("drop", "done"), ("rename", "done"), ("unlink", "done"),
                    ("reserve", "NoRoom"), ("rmdir", "done"), ("punch", "done"), ("rename", "NotEmpty")):
            self.assertGreater(counts.get(key, 0), 0, key)

    def test_room_exactly(self):
        watch = Watch(self)
        with mock.patch.object(memory_module, "check_room", watch):
            with mock.patch.object(snapshots_module, "check_room", watch):
                self.run_pairs(range(100, 125), 250)
        for refused in (False, True):
            for snapshots in (False, True):
                self.assertTrue([key for key in watch.answers if key[0] == refused and key[2] == snapshots])
        self.assertTrue([key for key in watch.answers if key[0] and not key[1]], watch.answers)

    def test_long_run(self):
        chance = random.Random(77)
        pair = VolumePair(self, LEAST)
        run(chance, pair, 2500)


if __name__ == "__main__":
    unittest.main()
