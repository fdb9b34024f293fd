"""Points 34 and 35: blocks, writes that wait, flushes, and cuts of the power now and on schedule."""

import inspect
import random
import unittest

from sameanswers import disks
from sameanswers.disks import Disk
from sameanswers.errors import OutOfRange, PowerCut

ZEROS = [0] * 32


def block_of(byte):
    return [byte] * 32


def torn_block(byte, many, rest=0):
    return [byte] * many + [rest] * (32 - many)


def told_of(disk):
    return ([disk.read(at) for at in range(disk.size())], disk.pending_count(), disk.cut_count())


class DiskCase(unittest.TestCase):
    def check_raises(self, disk, error, call, *told):
        before = told_of(disk)
        with self.assertRaises(OutOfRange if isinstance(error, str) else error) as held:
            call(*told)
        if isinstance(error, str):
            self.assertEqual(held.exception.name, error)
        self.assertEqual(told_of(disk), before)

    def check_blocks(self, disk, table):
        """The blocks at these places are these, and all others are zeros."""
        for at in range(disk.size()):
            self.assertEqual(disk.read(at), table.get(at, ZEROS), at)

    def check_cut(self, call, *told):
        with self.assertRaises(PowerCut):
            call(*told)


class Making(DiskCase):
    def test_the_numbers(self):
        self.assertEqual((disks.BLOCK, disks.BLOCKS_MOST), (32, 400))

    def test_8_to_400_blocks_of_zeros(self):
        for size in (8, 9, 100, 399, 400):
            disk = Disk(size)
            self.assertEqual(disk.size(), size)
            self.assertEqual(told_of(disk), ([ZEROS] * size, 0, 0))
        for size in (-8, -1, 0, 1, 7, 401, 402, 1000):
            with self.assertRaises(OutOfRange) as held:
                Disk(size)
            self.assertEqual(held.exception.name, "blocks")


class Writing(DiskCase):
    def test_a_write_is_read_at_once_and_waits(self):
        disk = Disk(8)
        self.assertIsNone(disk.write(3, block_of(7)))
        self.check_blocks(disk, {3: block_of(7)})
        self.assertEqual(disk.pending_count(), 1)
        disk.write(3, block_of(8))
        disk.write(7, block_of(9))
        self.check_blocks(disk, {3: block_of(8), 7: block_of(9)})
        self.assertEqual(disk.pending_count(), 3)

    def test_a_flush_performs_all_that_wait(self):
        disk = Disk(8)
        for byte in (1, 2):
            disk.write(0, block_of(byte))
            disk.write(byte, block_of(byte))
        self.assertIsNone(disk.flush())
        self.assertEqual(disk.pending_count(), 0)
        table = {0: block_of(2), 1: block_of(1), 2: block_of(2)}
        self.check_blocks(disk, table)
        disk.cut_power([])
        self.check_blocks(disk, table)
        disk.flush()
        disk.flush()
        self.check_blocks(disk, table)

    def test_bytes_from_0_to_255(self):
        disk = Disk(8)
        block = [0, 255, 1, 254] * 8
        disk.write(0, block)
        disk.flush()
        self.assertEqual(disk.read(0), block)

    def test_blocks_out_of_range(self):
        disk = Disk(8)
        disk.write(1, block_of(1))
        blocks = ([], [0] * 31, [0] * 33, [0] * 31 + [256], [-1] + [0] * 31, [0] * 15 + [1000] + [0] * 16)
        for block in blocks:
            self.check_raises(disk, "block", disk.write, 0, block)
            self.check_raises(disk, "block", disk.write, 7, block)

    def test_places_out_of_range(self):
        for size in (8, 20):
            disk = Disk(size)
            for at in (-size, -1, size, size + 1, 400):
                self.check_raises(disk, "at", disk.read, at)
                self.check_raises(disk, "at", disk.write, at, ZEROS)
                self.check_raises(disk, "at", disk.write, at, [])

    def test_no_list_is_kept(self):
        disk = Disk(8)
        block = block_of(5)
        disk.write(0, block)
        block[0] = 6
        block.append(6)
        self.assertEqual(disk.read(0), block_of(5))
        told = disk.read(0)
        told[0] = 7
        told.clear()
        self.assertEqual(disk.read(0), block_of(5))
        disk.flush()
        block[1] = 8
        told = disk.read(0)
        told[2] = 9
        self.assertEqual(disk.read(0), block_of(5))
        told = disk.read(1)
        told[3] = 9
        self.check_blocks(disk, {0: block_of(5)})
        self.assertIs(type(disk.read(0)), list)


class Cutting(DiskCase):
    def test_nothing_waits_afterwards(self):
        disk = Disk(8)
        disk.write(0, block_of(1))
        self.assertIsNone(disk.cut_power([]))
        self.assertEqual(told_of(disk), ([ZEROS] * 8, 0, 1))
        disk.flush()
        self.check_blocks(disk, {})
        disk.cut_power([32])
        self.assertEqual(told_of(disk), ([ZEROS] * 8, 0, 2))

    def test_each_number_of_bytes(self):
        for many in range(33):
            disk = Disk(8)
            disk.write(2, block_of(9))
            disk.flush()
            disk.write(2, list(range(1, 33)))
            disk.cut_power([many])
            self.assertEqual(disk.read(2), list(range(1, many + 1)) + [9] * (32 - many))

    def test_write_number_i_stores_its_own_bytes(self):
        disk = Disk(8)
        for at in range(4):
            disk.write(at, block_of(at + 1))
        disk.cut_power([5, 0, 32, 1])
        self.check_blocks(disk, {0: torn_block(1, 5), 2: block_of(3), 3: torn_block(4, 1)})

    def test_a_list_that_is_shorter(self):
        disk = Disk(8)
        for at in range(4):
            disk.write(at, block_of(at + 1))
        disk.cut_power([32, 16])
        self.check_blocks(disk, {0: block_of(1), 1: torn_block(2, 16)})

    def test_a_list_that_is_longer(self):
        disk = Disk(8)
        disk.write(0, block_of(1))
        disk.cut_power([3, 32, 32, 32])
        self.check_blocks(disk, {0: torn_block(1, 3)})
        disk.cut_power([32] * 500)
        self.check_blocks(disk, {0: torn_block(1, 3)})

    def test_several_writes_of_one_block(self):
        disk = Disk(8)
        for byte in (1, 2, 3):
            disk.write(0, block_of(byte))
        disk.cut_power([30, 20, 10])
        self.assertEqual(disk.read(0), [3] * 10 + [2] * 10 + [1] * 10 + [0, 0])
        for byte in (4, 5):
            disk.write(0, block_of(byte))
        disk.cut_power([5, 32])
        self.assertEqual(disk.read(0), block_of(5))

    def test_what_was_flushed_stays(self):
        disk = Disk(8)
        disk.write(0, block_of(1))
        disk.flush()
        disk.write(1, block_of(2))
        disk.cut_power([])
        self.check_blocks(disk, {0: block_of(1)})

    def test_the_disk_goes_on(self):
        disk = Disk(8)
        for many in range(1, 4):
            disk.write(0, block_of(many))
            disk.cut_power([])
            self.assertEqual(disk.cut_count(), many)
        disk.write(0, block_of(9))
        disk.flush()
        self.check_blocks(disk, {0: block_of(9)})

    def test_numbers_out_of_range(self):
        disk = Disk(8)
        disk.write(0, block_of(1))
        for torn in ([33], [-1], [0, 33], [32, 32, -1], [0] * 20 + [33], [1000]):
            self.check_raises(disk, "torn", disk.cut_power, torn)
            self.check_raises(disk, "torn", disk.schedule_cut, 0, torn)
            self.check_raises(disk, "torn", disk.schedule_cut, 100000, torn)
            for many in (-1, 100001):
                self.check_raises(disk, "many", disk.schedule_cut, many, torn)
        for many in (-100, -1, 100001, 200000):
            self.check_raises(disk, "many", disk.schedule_cut, many, [])
        # None of them was scheduled.
        disk.flush()
        self.assertEqual(disk.cut_count(), 0)


class Scheduling(DiskCase):
    def test_behind_0_a_write_is_not_done_and_the_power_is_cut(self):
        disk = Disk(8)
        disk.write(0, block_of(1))
        self.assertIsNone(disk.schedule_cut(0, [4, 4]))
        self.assertEqual(disk.cut_count(), 0)
        self.check_cut(disk.write, 1, block_of(2))
        self.check_blocks(disk, {0: torn_block(1, 4)})
        self.assertEqual((disk.pending_count(), disk.cut_count()), (0, 1))

    def test_behind_0_a_flush_is_not_done_and_the_power_is_cut(self):
        disk = Disk(8)
        disk.write(0, block_of(1))
        disk.write(1, block_of(2))
        disk.schedule_cut(0, [0, 32])
        self.check_cut(disk.flush)
        self.check_blocks(disk, {1: block_of(2)})
        self.assertEqual((disk.pending_count(), disk.cut_count()), (0, 1))

    def test_behind_so_many_writes_and_flushes(self):
        words = ("write", "flush", "write", "write", "flush", "flush", "write")
        for many, last in enumerate(words):
            disk, stored, waiting = Disk(8), {}, {}
            disk.schedule_cut(many, [])
            for at, word in enumerate(words[:many]):
                if word == "write":
                    disk.write(at, block_of(at + 1))
                    waiting[at] = block_of(at + 1)
                else:
                    disk.flush()
                    stored.update(waiting)
                    waiting = {}
            self.assertEqual((disk.cut_count(), disk.pending_count()), (0, len(waiting)))
            self.check_cut(getattr(disk, last), *((7, block_of(9)) if last == "write" else ()))
            self.check_blocks(disk, stored)
            self.assertEqual((disk.cut_count(), disk.pending_count()), (1, 0))

    def test_up_to_100000(self):
        disk = Disk(8)
        disk.schedule_cut(100000, [])
        for _ in range(100000):
            disk.flush()
        self.check_cut(disk.flush)

    def test_a_cut_ends_the_schedule(self):
        disk = Disk(8)
        disk.schedule_cut(0, [])
        self.check_cut(disk.flush)
        for _ in range(5):
            disk.flush()
            disk.write(0, block_of(1))
        self.assertEqual(disk.cut_count(), 1)
        disk.schedule_cut(1, [])
        disk.cut_power([])
        for _ in range(5):
            disk.flush()
        self.assertEqual(disk.cut_count(), 2)

    def test_scheduling_again_replaces_the_schedule(self):
        disk = Disk(8)
        disk.schedule_cut(0, [32])
        disk.schedule_cut(2, [1])
        disk.write(0, block_of(1))
        disk.write(1, block_of(2))
        self.check_cut(disk.flush)
        self.check_blocks(disk, {0: torn_block(1, 1)})
        disk.schedule_cut(5, [])
        disk.schedule_cut(0, [])
        self.check_cut(disk.write, 0, ZEROS)
        disk.flush()

    def test_a_schedule_that_is_out_of_range_replaces_none(self):
        disk = Disk(8)
        disk.schedule_cut(1, [2])
        self.check_raises(disk, "many", disk.schedule_cut, -1, [])
        self.check_raises(disk, "torn", disk.schedule_cut, 5, [33])
        self.check_raises(disk, "torn", disk.cut_power, [33])
        disk.write(0, block_of(1))
        self.check_cut(disk.flush)
        self.check_blocks(disk, {0: torn_block(1, 2)})

    def test_reads_and_writes_out_of_range_do_not_count(self):
        disk = Disk(8)
        disk.schedule_cut(1, [])
        for _ in range(3):
            disk.read(0)
            disk.size()
            disk.pending_count()
            self.check_raises(disk, "at", disk.read, 8)
            self.check_raises(disk, "at", disk.write, 8, ZEROS)
            self.check_raises(disk, "block", disk.write, 0, [0] * 31)
        disk.write(0, ZEROS)
        self.check_raises(disk, "at", disk.write, -1, ZEROS)
        self.check_raises(disk, "block", disk.write, 0, [256] * 32)
        self.check_cut(disk.write, 0, ZEROS)

    def test_no_list_is_kept(self):
        disk = Disk(8)
        torn = [4]
        disk.schedule_cut(1, torn)
        torn[0] = 32
        torn.append(32)
        disk.write(0, block_of(1))
        self.check_cut(disk.flush)
        self.assertEqual(torn, [32, 32])
        self.check_blocks(disk, {0: torn_block(1, 4)})


class SideBySide(DiskCase):
    """The points once more with drawn calls: stored blocks, and the writes that wait in a list beside them."""

    def test_many_drawn_runs(self):
        for seed in range(40):
            draw = random.Random(seed)
            disk, stored, waiting, cuts = Disk(8), [list(ZEROS) for _ in range(8)], [], 0
            for _ in range(60):
                kind = draw.randrange(8)
                if kind < 5:
                    at, block = draw.randrange(8), [draw.randrange(256) for _ in range(32)]
                    disk.write(at, block)
                    waiting.append((at, block))
                elif kind < 7:
                    torn = [32] * 100
                    disk.flush()
                else:
                    torn = [draw.choice((0, 1, 16, 31, 32)) for _ in range(draw.randrange(10))]
                    disk.cut_power(torn)
                    cuts += 1
                if kind >= 5:
                    for i, (at, block) in enumerate(waiting):
                        many = torn[i] if i < len(torn) else 0
                        stored[at] = block[:many] + stored[at][many:]
                    waiting = []
                seen = [list(block) for block in stored]
                for at, block in waiting:
                    seen[at] = block
                self.assertEqual(told_of(disk), (seen, len(waiting), cuts), seed)


class Interface(unittest.TestCase):
    METHODS = {
        "__init__": ["blocks"],
        "size": [],
        "read": ["at"],
        "write": ["at", "block"],
        "flush": [],
        "pending_count": [],
        "cut_count": [],
        "cut_power": ["torn"],
        "schedule_cut": ["many", "torn"],
    }

    def test_each_method_stands_in_the_class(self):
        self.assertEqual(Disk.__module__, "sameanswers.disks")
        for name, parameters in self.METHODS.items():
            with self.subTest(name=name):
                self.assertIn(name, vars(Disk))
                self.assertEqual(list(inspect.signature(vars(Disk)[name]).parameters), ["self"] + parameters)


if __name__ == "__main__":
    unittest.main()
