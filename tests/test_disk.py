"""Promise [8]: a disk."""

import unittest

from keptfiles.disk import Disk
from keptfiles.errors import Fallen
from tests.helpers import NO_INTEGERS, check_bad_number, check_error, copy_of, lots, same

A, B, C, D = (1,), ("b", (2, None)), (), ("d",)


def state_of(disk):
    return disk.size, disk.blocks, disk.waiting


class Creation(unittest.TestCase):
    def test_empty(self):
        for size in (1, 2, 9, 4000):
            disk = Disk(size)
            same(self, state_of(disk), (size, (None,) * size, ()))

    def test_by_name(self):
        self.assertEqual(Disk(size=3).size, 3)

    def test_wrong_sizes(self):
        for size in (*NO_INTEGERS, 0, -1, -10 ** 20):
            check_bad_number(self, "size", size, Disk, size)


class WritesAndReads(unittest.TestCase):
    def test_a_write_waits(self):
        for size in (1, 2, 5):
            disk = Disk(size)
            self.assertIsNone(disk.write(size - 1, A))
            same(self, disk.blocks, (None,) * size)
            same(self, disk.waiting, ((size - 1, A),))

    def test_writes_wait_in_their_order(self):
        disk = Disk(3)
        for number, content in ((2, A), (0, B), (2, C), (1, D), (0, A)):
            disk.write(number, content)
        same(self, disk.waiting, ((2, A), (0, B), (2, C), (1, D), (0, A)))
        same(self, disk.blocks, (None, None, None))

    def test_flush(self):
        disk = Disk(3)
        disk.write(number=2, content=A)
        disk.write(0, B)
        self.assertIsNone(disk.flush())
        same(self, state_of(disk), (3, (B, None, A), ()))
        disk.write(0, C)
        same(self, state_of(disk), (3, (B, None, A), ((0, C),)))
        disk.flush()
        same(self, state_of(disk), (3, (C, None, A), ()))
        disk.flush()
        same(self, state_of(disk), (3, (C, None, A), ()))

    def test_same_block_twice(self):
        for size in (1, 4):
            disk = Disk(size)
            for content in (A, B, D):
                disk.write(0, content)
            same(self, disk.waiting, ((0, A), (0, B), (0, D)))
            disk.flush()
            same(self, disk.blocks, (D,) + (None,) * (size - 1))

    def test_read(self):
        disk = Disk(2)
        self.assertIsNone(disk.read(0))
        disk.write(0, A)
        same(self, disk.read(0), A)
        self.assertIsNone(disk.read(1))
        disk.write(0, C)
        disk.write(1, B)
        same(self, disk.read(number=0), C)
        disk.flush()
        same(self, (disk.read(0), disk.read(1)), (C, B))
        disk.write(1, D)
        same(self, (disk.read(0), disk.read(1)), (C, D))
        disk.fall(())
        same(self, (disk.read(0), disk.read(1)), (C, B))

    def test_wrong_numbers_of_blocks(self):
        for size in (1, 3):
            for number in (*NO_INTEGERS, -1, size, size + 1, -size, 10 ** 30):
                disk = Disk(size)
                disk.write(0, A)
                before = state_of(disk)
                check_bad_number(self, "block", number, disk.write, number, B)
                check_bad_number(self, "block", number, disk.read, number)
                check_bad_number(self, "block", number, disk.spoil, number, B)
                self.assertEqual(state_of(disk), before)

    def test_elder_tuples_stay(self):
        disk = Disk(2)
        seen = []
        for change in (lambda: disk.write(0, A), lambda: disk.write(0, B), disk.flush,
                       lambda: disk.spoil(1, D), lambda: disk.write(1, C), lambda: disk.fall([0]),
                       lambda: disk.write(1, A), disk.wipe):
            seen.append((disk.blocks, disk.waiting))
            change()
        seen.append((disk.blocks, disk.waiting))
        same(self, seen, [
            ((None, None), ()), ((None, None), ((0, A),)), ((None, None), ((0, A), (0, B))), ((B, None), ()),
            ((B, D), ()), ((B, D), ((1, C),)), ((B, C), ()), ((B, C), ((1, A),)), ((None, None), ())])


class Fuses(unittest.TestCase):
    def test_none_at_first(self):
        disk = Disk(1)
        for _ in range(500):
            disk.write(0, A)
        disk.flush()
        same(self, disk.blocks, (A,))

    def test_just_so_many_steps(self):
        for steps in range(6):
            disk = Disk(2)
            self.assertIsNone(disk.set_fuse(steps))
            for step in range(steps):
                if step % 2:
                    disk.flush()
                else:
                    disk.write(1, (step,))
            before = state_of(disk)
            for _ in range(3):
                check_error(self, Fallen, {"steps": steps}, disk.write, 0, A)
                check_error(self, Fallen, {"steps": steps}, disk.flush)
                self.assertEqual(state_of(disk), before)

    def test_what_is_no_step(self):
        disk = Disk(2)
        disk.write(0, A)
        disk.set_fuse(1)
        disk.read(0)
        disk.spoil(1, B)
        disk.set_fuse(1)
        check_bad_number(self, "block", 2, disk.write, 2, A)
        check_bad_number(self, "lot", (1,), disk.fall, (1,))
        disk.flush()
        same(self, disk.blocks, (A, B))
        check_error(self, Fallen, {"steps": 1}, disk.flush)

    def test_wrong_block_stands_ahead_of_fallen(self):
        disk = Disk(2)
        disk.set_fuse(0)
        for number in (2, -1, None, True):
            check_bad_number(self, "block", number, disk.write, number, A)
        check_error(self, Fallen, {"steps": 0}, disk.write, 1, A)

    def test_none_takes_the_fuse_away(self):
        disk = Disk(1)
        disk.set_fuse(0)
        disk.set_fuse(steps=None)
        disk.write(0, A)
        disk.set_fuse(5)
        disk.set_fuse(None)
        for _ in range(20):
            disk.flush()
        same(self, disk.blocks, (A,))

    def test_a_later_fuse_counts_anew(self):
        disk = Disk(1)
        disk.set_fuse(1)
        disk.flush()
        disk.set_fuse(2)
        disk.flush()
        disk.flush()
        check_error(self, Fallen, {"steps": 2}, disk.flush)

    def test_wrong_steps(self):
        disk = Disk(1)
        disk.set_fuse(1)
        for steps in (-1, -10 ** 9, *[value for value in NO_INTEGERS if value is not None]):
            check_bad_number(self, "steps", steps, disk.set_fuse, steps)
        disk.flush()
        check_error(self, Fallen, {"steps": 1}, disk.flush)

    def test_fall_and_wipe_take_the_fuse_away(self):
        for end in (lambda disk: disk.fall(()), lambda disk: disk.wipe()):
            disk = Disk(1)
            disk.set_fuse(0)
            end(disk)
            for _ in range(5):
                disk.write(0, B)
            disk.flush()
            same(self, disk.blocks, (B,))

    def test_read_fall_wipe_and_spoil_work_behind_a_blown_fuse(self):
        disk = Disk(2)
        disk.write(0, A)
        disk.set_fuse(0)
        check_error(self, Fallen, {"steps": 0}, disk.flush)
        same(self, disk.read(0), A)
        disk.spoil(1, D)
        check_error(self, Fallen, {"steps": 0}, disk.flush)
        disk.fall((0,))
        same(self, state_of(disk), (2, (A, D), ()))


class Falls(unittest.TestCase):
    def waiting_disk(self):
        disk = Disk(3)
        disk.write(0, D)
        disk.flush()
        for number, content in ((0, A), (1, B), (0, C)):
            disk.write(number, content)
        return disk

    def test_each_lot(self):
        expected = {(): (D, None, None), (0,): (A, None, None), (1,): (D, B, None), (2,): (C, None, None),
                    (0, 1): (A, B, None), (0, 2): (C, None, None), (1, 2): (C, B, None), (0, 1, 2): (C, B, None)}
        self.assertEqual(sorted(expected), sorted(lots(3)))
        for lot, blocks in expected.items():
            for passed in (lot, list(lot)):
                disk = self.waiting_disk()
                self.assertIsNone(disk.fall(passed))
                same(self, state_of(disk), (3, blocks, ()))
                same(self, list(passed), list(lot))

    def test_by_name(self):
        disk = self.waiting_disk()
        disk.fall(lot=[1])
        same(self, disk.blocks, (D, B, None))

    def test_lots_that_are_none(self):
        wrong = (None, 0, "", "0", {}, {0}, {0: 1}, range(1), b"", 1.0, True, (True,), [False], (0, True), (None,),
                 ("0",), ((0,),), (1.0,), (-1,), (0, -1), (-1, 0), (3,), (0, 3), (0, 1, 2, 3), (1, 0), [2, 1], (0, 0),
                 (1, 1), (0, 1, 1), (0, 2, 1), [10 ** 20])
        for lot in wrong:
            disk = self.waiting_disk()
            disk.set_fuse(0)
            before = state_of(disk)
            check_bad_number(self, "lot", lot, disk.fall, lot)
            self.assertEqual(state_of(disk), before)
            check_error(self, Fallen, {"steps": 0}, disk.flush)

    def test_when_nothing_waits(self):
        disk = Disk(1)
        disk.write(0, A)
        disk.flush()
        check_bad_number(self, "lot", (0,), disk.fall, (0,))
        disk.fall([])
        same(self, state_of(disk), (1, (A,), ()))

    def test_a_disk_goes_on_behind_a_fall(self):
        disk = self.waiting_disk()
        disk.fall((1,))
        disk.write(2, A)
        disk.flush()
        same(self, state_of(disk), (3, (D, B, A), ()))


class WipesAndSpoils(unittest.TestCase):
    def test_wipe(self):
        for size in (1, 4):
            disk = Disk(size)
            disk.write(0, A)
            disk.flush()
            disk.write(size - 1, B)
            self.assertIsNone(disk.wipe())
            same(self, state_of(disk), (size, (None,) * size, ()))

    def test_spoil(self):
        for size in (1, 4):
            for number in range(size):
                disk = Disk(size)
                for at in range(size):
                    disk.write(at, (at,))
                disk.flush()
                for content in (D, None, C):
                    self.assertIsNone(disk.spoil(number, content))
                    expected = [(at,) for at in range(size)]
                    expected[number] = content
                    same(self, state_of(disk), (size, tuple(expected), ()))

    def test_spoil_leaves_what_waits_and_the_fuse(self):
        disk = Disk(2)
        disk.write(0, A)
        disk.write(1, B)
        disk.set_fuse(2)
        disk.spoil(number=0, content=D)
        same(self, state_of(disk), (2, (D, None), ((0, A), (1, B))))
        same(self, disk.read(0), A)
        disk.flush()
        same(self, state_of(disk), (2, (A, B), ()))
        disk.spoil(1, None)
        disk.write(0, C)
        check_error(self, Fallen, {"steps": 2}, disk.flush)
        same(self, state_of(disk), (2, (A, None), ((0, C),)))

    def test_two_disks_share_nothing(self):
        disk = Disk(2)
        disk.write(0, A)
        other = copy_of(disk)
        other.flush()
        same(self, state_of(disk), (2, (None, None), ((0, A),)))


if __name__ == "__main__":
    unittest.main()
