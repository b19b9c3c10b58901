"""Points 107 and 108: handles and open files."""

import random
import unittest

from helpers import GREAT
from segmentfs.errors import BadHandle, SegmentError, TooManyOpen
from segmentfs.names.handles import HANDLES, Handles, OpenFile


def fields(opened):
    return None if opened is None else (opened.number, opened.access, opened.reserved)


def rows(handles):
    return [fields(opened) for opened in handles.files]


def all_taken():
    handles = Handles()
    for number in range(16):
        handles.acquire(100 + number, ("read", "write", "both")[number % 3])
    return handles


class OpenFileTest(unittest.TestCase):
    def test_fields(self):
        self.assertEqual(fields(OpenFile(2, "read")), (2, "read", 0))
        self.assertEqual(fields(OpenFile(7, "both", 5)), (7, "both", 5))
        self.assertEqual(fields(OpenFile(reserved=4, access="write", number=3)), (3, "write", 4))


class AcquireTest(unittest.TestCase):
    def test_all_handles_are_free_at_first(self):
        self.assertEqual(HANDLES, 16)
        self.assertEqual(Handles().files, [None] * 16)
        self.assertEqual(Handles().opened_numbers(), [])

    def test_least_free_handle(self):
        handles = Handles()
        self.assertEqual([handles.acquire(5, "read") for _ in range(4)], [0, 1, 2, 3])
        handles.free(2)
        handles.free(0)
        self.assertEqual([handles.acquire(6, "both") for _ in range(3)], [0, 2, 4])
        self.assertEqual(rows(handles)[:6], [(6, "both", 0), (5, "read", 0), (6, "both", 0), (5, "read", 0),
                                             (6, "both", 0), None])

    def test_all_handles_and_one_more(self):
        handles = all_taken()
        before = rows(handles)
        self.assertNotIn(None, before)
        for access in ("read", "write", "both"):
            with self.assertRaises(TooManyOpen):
                handles.acquire(3, access)
        self.assertEqual(rows(handles), before)
        handles.free(15)
        self.assertEqual(handles.acquire(3, "read"), 15)
        with self.assertRaises(TooManyOpen):
            handles.acquire(3, "read")

    def test_file_with_several_handles(self):
        handles = Handles()
        for number in (9, 4, 9, 9, 1):
            handles.acquire(number, "both")
        self.assertEqual(handles.opened_numbers(), [1, 4, 9])
        handles.free(0)
        handles.free(1)
        self.assertEqual(handles.opened_numbers(), [1, 9])
        self.assertIsNot(handles.get(2), handles.get(3))
        handles.reserve(2, 6)
        self.assertEqual((handles.get(2).reserved, handles.get(3).reserved), (6, 0))

    def test_two_objects(self):
        first, second = Handles(), Handles()
        first.acquire(1, "read")
        self.assertEqual(second.files, [None] * 16)


class GetTest(unittest.TestCase):
    def test_object_itself(self):
        handles = all_taken()
        for handle in range(16):
            self.assertIs(handles.get(handle), handles.files[handle])
            self.assertEqual(handles.get(handle).number, 100 + handle)

    def check_bad(self, handles, handle):
        before = rows(handles)
        calls = (handles.get, handles.reading, handles.writing, handles.free, lambda at: handles.reserve(at, 3))
        for call in calls:
            with self.assertRaises(BadHandle):
                call(handle)
        self.assertEqual(rows(handles), before)

    def test_handles_that_are_none(self):
        for handle in (-1, -2, -16, -17, 16, 17, 65535):
            self.check_bad(all_taken(), handle)
            self.check_bad(Handles(), handle)

    def test_great_handles(self):
        for great in (2 ** 63, 10 ** 4299, 10 ** 4300, GREAT):
            for handle in (great, -great):
                self.check_bad(all_taken(), handle)
                self.check_bad(Handles(), handle)

    def test_free_handles(self):
        handles = all_taken()
        for handle in (0, 7, 15):
            handles.free(handle)
        for handle in (0, 7, 15):
            self.check_bad(handles, handle)
        for handle in range(16):
            self.check_bad(Handles(), handle)

    def test_access(self):
        handles = Handles()
        for access in ("read", "write", "both"):
            handles.acquire(2, access)
        for handle, reads, writes in ((0, True, False), (1, False, True), (2, True, True)):
            self.assertIs(handles.get(handle), handles.files[handle])
            self.check_access(handles, handles.reading, handle, reads)
            self.check_access(handles, handles.writing, handle, writes)

    def check_access(self, handles, call, handle, allowed):
        if allowed:
            self.assertIs(call(handle), handles.files[handle])
        else:
            with self.assertRaises(BadHandle):
                call(handle)

    def test_errors(self):
        for error in (BadHandle, TooManyOpen):
            self.assertEqual(error.__bases__, (SegmentError,))


class FreeAndReserveTest(unittest.TestCase):
    def test_free(self):
        for access in ("read", "write", "both"):
            handles = Handles()
            handle = handles.acquire(3, access)
            opened = handles.get(handle)
            self.assertIs(handles.free(handle), opened)
            self.assertEqual(fields(opened), (3, access, 0))
            self.assertEqual(handles.files, [None] * 16)

    def test_reserve(self):
        handles = Handles()
        for access in ("write", "both"):
            handle = handles.acquire(3, access)
            self.assertIsNone(handles.reserve(handle, 60000))
            self.assertEqual(handles.get(handle).reserved, 60000)
            handles.reserve(handle, 0)
            self.assertEqual(handles.get(handle).reserved, 0)

    def test_reserve_without_writing(self):
        handles = Handles()
        handles.acquire(3, "read")
        with self.assertRaises(BadHandle):
            handles.reserve(0, 1)
        self.assertEqual(rows(handles)[0], (3, "read", 0))

    def test_reservation_ends_with_the_handle(self):
        handles = Handles()
        handles.acquire(3, "both")
        handles.reserve(0, 9)
        self.assertEqual(handles.free(0).reserved, 9)
        self.assertEqual(handles.acquire(3, "both"), 0)
        self.assertEqual(handles.get(0).reserved, 0)


class OpenedNumbersTest(unittest.TestCase):
    def test_ascending_and_once(self):
        handles = Handles()
        for number in (30, 2, 65535, 2, 7, 30):
            handles.acquire(number, "read")
        self.assertEqual(handles.opened_numbers(), [2, 7, 30, 65535])

    def test_list_is_new(self):
        handles = all_taken()
        handles.opened_numbers().clear()
        self.assertEqual(handles.opened_numbers(), list(range(100, 116)))


class ForkTest(unittest.TestCase):
    def test_fork(self):
        handles = Handles()
        handles.acquire(4, "both")
        handles.acquire(5, "read")
        handles.free(0)
        handles.acquire(6, "write")
        handles.reserve(0, 8)
        twin = handles.fork()
        before = rows(handles)
        self.assertEqual(rows(twin), before)
        twin.reserve(0, 1)
        twin.free(1)
        twin.acquire(9, "both")
        twin.acquire(9, "both")
        self.assertEqual(rows(handles), before)
        after = rows(twin)
        handles.free(0)
        handles.acquire(7, "both")
        handles.reserve(0, 3)
        handles.get(1).access = "both"
        self.assertEqual(rows(twin), after)

    def test_random_calls(self):
        for seed in range(40):
            self.check_calls(random.Random(seed))

    def check_calls(self, chance):
        handles = Handles()
        model = [None] * 16
        for _ in range(150):
            draw = chance.random()
            handle = chance.randrange(-2, 19)
            there = model[handle] if 0 <= handle < 16 else None
            if draw < 0.5:
                self.check_acquire(chance, handles, model)
            elif draw < 0.7:
                self.check_call(handles.free, handle, there)
                if there:
                    model[handle] = None
            elif draw < 0.9:
                blocks = chance.randrange(9)
                allowed = there and there[1] != "read"
                self.check_call(lambda at: handles.reserve(at, blocks), handle, allowed)
                if allowed:
                    model[handle] = there[:2] + (blocks,)
            else:
                handles = handles.fork()
            self.assertEqual(rows(handles), model)
            self.assertEqual(handles.opened_numbers(), sorted(set(row[0] for row in model if row)))

    def check_acquire(self, chance, handles, model):
        row = (chance.randrange(2, 9), chance.choice(("read", "write", "both")), 0)
        if None not in model:
            with self.assertRaises(TooManyOpen):
                handles.acquire(row[0], row[1])
            return
        least = model.index(None)
        self.assertEqual(handles.acquire(row[0], row[1]), least)
        model[least] = row

    def check_call(self, call, handle, allowed):
        if allowed:
            call(handle)
        else:
            with self.assertRaises(BadHandle):
                call(handle)


if __name__ == "__main__":
    unittest.main()
