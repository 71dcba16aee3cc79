"""Promises [12], [13], [14]: a Keeper, and how it writes its deeds down."""

import unittest

from keptfiles.disk import Disk
from keptfiles.errors import Fallen, Full
from keptfiles.keeper import Keeper, kept, record_of
from tests.helpers import NO_INTEGERS, check_bad_number, check_error, copy_of, disk_with, same, steps_of

J, K, L, M = ("j",), ("k",), ("l", 1), ("m", ("x", 2))


class Beginning(unittest.TestCase):
    def test_on_an_empty_disk(self):
        for size in (3, 4, 9):
            disk = Disk(size)
            keeper = Keeper(disk, 2)
            self.assertIs(keeper.disk, disk)
            same(self, keeper.width, 2)
            same(self, disk.blocks, ((0, 0, 1, 1),) + (None,) * (size - 1))
            same(self, disk.waiting, ())
            same(self, (keeper.pairs(), keeper.weight(), keeper.get(K)), ((), 0, None))

    def test_by_names(self):
        disk = Disk(3)
        same(self, Keeper(width=1, disk=disk).width, 1)

    def test_on_what_another_keeper_wrote(self):
        disk = Disk(9)
        keeper = Keeper(disk, 2)
        keeper.put(K, (1, 2, 3))
        keeper.put(L, ())
        keeper.flush()
        other = Keeper(disk, 2)
        same(self, disk.blocks[0], (0, 0, 2, 1))
        same(self, disk.waiting, ())
        same(self, other.pairs(), ((K, (1, 2, 3)), (L, ())))
        same(self, other.weight(), 3)
        other.put(M, (4,))
        same(self, disk.waiting, ((4, (0, 3, 2, 0, M, (4,))),))
        disk.fall((0,))
        third = Keeper(disk, 2)
        same(self, disk.blocks[0], (0, 0, 3, 1))
        same(self, third.pairs(), ((K, (1, 2, 3)), (L, ()), (M, (4,))))
        elder = disk.blocks[1:5]
        third.drop(L)
        same(self, disk.blocks, ((1, 1, 3, 3),) + elder + (
            (1, 0, 3, 1, K, (1, 2)), (1, 1, 3, 0, K, (3,)), (1, 2, 3, 0, M, (4,)), None))

    def test_base_and_half_stay(self):
        root = (4, 1, 7, 5)
        row = record_of(K, (1,), 4, 0, 6, 1)
        disk = disk_with((root, None, None, None) + row + (None, None))
        keeper = Keeper(disk, 1)
        same(self, disk.blocks[0], (4, 1, 8, 5))
        same(self, keeper.pairs(), ((K, (1,)),))
        keeper.put(K, (2,))
        same(self, disk.waiting, ((5, (4, 1, 8, 0, K, (2,))),))

    def test_end_is_where_reading_ended(self):
        row = (None, (0, 1, 1, 0, K, (1,)), None)
        disk = disk_with(((0, 0, 1, 1),) + row + (None,) * 3)
        keeper = Keeper(disk, 1)
        same(self, keeper.pairs(), ())
        keeper.put(L, (5,))
        keeper.flush()
        same(self, kept(disk.blocks), {L: (5,)})
        same(self, disk.blocks[1], (0, 0, 2, 0, L, (5,)))
        same(self, disk.blocks[2], row[1])

    def test_small_disks(self):
        for size in (1, 2):
            for width in (1, 0, None):
                disk = Disk(size)
                disk.set_fuse(0)
                check_bad_number(self, "size", size, Keeper, disk, width)
                same(self, (disk.blocks, disk.waiting), ((None,) * size, ()))

    def test_wrong_widths(self):
        for width in (*NO_INTEGERS, 0, -1, -10 ** 20):
            disk = Disk(3)
            disk.set_fuse(0)
            check_bad_number(self, "width", width, Keeper, disk, width)
            same(self, (disk.blocks, disk.waiting), ((None,) * 3, ()))

    def test_two_steps(self):
        begun = Disk(5)
        Keeper(begun, 1).flush()
        for disk, root in ((Disk(5), (0, 0, 1, 1)), (begun, (0, 0, 2, 1))):
            before = disk.blocks
            for steps in (0, 1):
                other = copy_of(disk)
                other.set_fuse(steps)
                check_error(self, Fallen, {"steps": steps}, Keeper, other, 1)
                same(self, other.blocks, before)
                same(self, other.waiting, ((0, root),) if steps else ())
            disk.set_fuse(2)
            Keeper(disk, 1)
            same(self, disk.blocks[0], root)


class Deeds(unittest.TestCase):
    def test_put_waits(self):
        disk = Disk(9)
        keeper = Keeper(disk, 2)
        before = disk.blocks
        self.assertIsNone(keeper.put(K, (1, 2, 3)))
        same(self, disk.blocks, before)
        same(self, disk.waiting, ((1, (0, 0, 1, 1, K, (1, 2))), (2, (0, 1, 1, 0, K, (3,)))))
        keeper.put(L, ())
        same(self, disk.waiting[2:], ((3, (0, 2, 1, 0, L, ())),))
        same(self, keeper.pairs(), ((K, (1, 2, 3)), (L, ())))
        same(self, (keeper.get(K), keeper.get(L), keeper.get(M)), ((1, 2, 3), (), None))
        same(self, keeper.weight(), 3)
        waiting = disk.waiting
        self.assertIsNone(keeper.flush())
        same(self, disk.waiting, ())
        same(self, disk.blocks, before[:1] + tuple(block for _, block in waiting) + before[4:])
        same(self, kept(disk.blocks), {K: (1, 2, 3), L: ()})

    def test_by_names(self):
        keeper = Keeper(Disk(9), 1)
        keeper.put(key=K, value=(1,))
        same(self, keeper.get(key=K), (1,))
        same(self, keeper.drop(key=K), True)

    def test_same_value_anew_is_a_deed(self):
        disk = Disk(9)
        keeper = Keeper(disk, 1)
        for at in range(3):
            keeper.put(K, (7,))
            same(self, disk.waiting[at:], ((1 + at, (0, at, 1, 0, K, (7,))),))
        same(self, keeper.pairs(), ((K, (7,)),))
        same(self, keeper.weight(), 1)

    def test_order(self):
        keeper = Keeper(Disk(41), 1)
        for key in (K, L, M):
            keeper.put(key, (key[0],))
        keeper.put(K, (1, 2))
        same(self, keeper.pairs(), ((K, (1, 2)), (L, ("l",)), (M, ("m",))))
        keeper.drop(K)
        same(self, keeper.pairs(), ((L, ("l",)), (M, ("m",))))
        keeper.put(K, ())
        same(self, keeper.pairs(), ((L, ("l",)), (M, ("m",)), (K, ())))
        keeper.flush()
        same(self, tuple(kept(keeper.disk.blocks).items()), keeper.pairs())

    def test_drop(self):
        disk = Disk(9)
        keeper = Keeper(disk, 1)
        keeper.put(K, (1, 2))
        keeper.flush()
        same(self, keeper.drop(K), True)
        same(self, disk.waiting, ((3, (0, 2, 1, 0, K, None)),))
        same(self, (keeper.get(K), keeper.pairs(), keeper.weight()), (None, (), 0))
        same(self, keeper.drop(K), False)
        same(self, keeper.drop(L), False)
        same(self, len(disk.waiting), 1)

    def test_drop_of_a_missing_key_is_no_step(self):
        disk = Disk(9)
        keeper = Keeper(disk, 1)
        keeper.put(K, (1,))
        before = (disk.blocks, disk.waiting)
        disk.set_fuse(0)
        same(self, keeper.drop(L), False)
        same(self, (disk.blocks, disk.waiting), before)

    def test_pairs_that_were_read_stay(self):
        keeper = Keeper(Disk(9), 1)
        keeper.put(K, (1,))
        before = keeper.pairs()
        keeper.put(K, (2,))
        keeper.drop(K)
        same(self, before, ((K, (1,)),))

    def test_weight(self):
        for width in (1, 2, 3, 16):
            keeper = Keeper(Disk(400), width)
            expected = {}
            for key, many in ((K, 0), (L, 1), (M, width), (K, width + 1), (L, 2 * width), (M, 2 * width + 1), (K, 3)):
                keeper.put(key, tuple(range(many)))
                expected[key] = max(1, -(-many // width))
                same(self, keeper.weight(), sum(expected.values()))
            for key in (L, K, M):
                keeper.drop(key)
                del expected[key]
                same(self, keeper.weight(), sum(expected.values()))
            keeper.put(J, (1, 2, 3))
            keeper.flush()
            same(self, Keeper(keeper.disk, width).weight(), -(-3 // width))

    def test_a_lone_deed_falls_at_each_block(self):
        for steps in range(3):
            disk = Disk(9)
            keeper = Keeper(disk, 1)
            before = disk.blocks
            disk.set_fuse(steps)
            check_error(self, Fallen, {"steps": steps}, keeper.put, K, (1, 2, 3))
            same(self, disk.blocks, before)
            same(self, disk.waiting, tuple((1 + at, (0, at, 1, 2 - at, K, (at + 1,))) for at in range(steps)))


class Moves(unittest.TestCase):
    def full_keeper(self):
        """A Keeper of a disk with halves of four blocks, all of the first one written, none waiting."""
        keeper = Keeper(Disk(10), 2)
        keeper.put(K, (1, 2, 3))
        keeper.put(L, ())
        keeper.put(L, (4,))
        same(self, keeper.disk.blocks[1:], (None,) * 9)
        keeper.flush()
        return keeper

    def test_a_deed_that_just_fits_does_not_move(self):
        keeper = self.full_keeper()
        same(self, keeper.disk.blocks, (
            (0, 0, 1, 1), (0, 0, 1, 1, K, (1, 2)), (0, 1, 1, 0, K, (3,)), (0, 2, 1, 0, L, ()),
            (0, 3, 1, 0, L, (4,)), None, None, None, None, None))

    def test_a_put_moves_there_and_back(self):
        keeper = self.full_keeper()
        disk = keeper.disk
        first = disk.blocks[1:5]
        keeper.put(M, (9, 9))
        second = ((1, 0, 1, 1, K, (1, 2)), (1, 1, 1, 0, K, (3,)), (1, 2, 1, 0, L, (4,)), (1, 3, 1, 0, M, (9, 9)))
        same(self, disk.blocks, ((1, 1, 1, 1),) + first + second + (None,))
        same(self, disk.waiting, ())
        same(self, keeper.weight(), 4)
        keeper = Keeper(disk, 2)
        same(self, disk.blocks[0], (1, 1, 2, 1))
        keeper.put(K, (5,))
        third = ((2, 0, 2, 0, K, (5,)), (2, 1, 2, 0, L, (4,)), (2, 2, 2, 0, M, (9, 9)))
        same(self, disk.blocks, ((2, 0, 2, 2),) + third + first[3:] + second + (None,))
        same(self, disk.waiting, ())
        keeper.put(J, ())
        same(self, disk.waiting, ((4, (2, 3, 2, 0, J, ())),))
        keeper.put(J, (1,))
        same(self, disk.blocks[0], (3, 1, 2, 2))
        same(self, disk.blocks[5:9], tuple((3, at, 2, 0, *block[4:]) for at, block in enumerate(third))
             + ((3, 3, 2, 0, J, (1,)),))
        same(self, disk.blocks[4], (2, 3, 2, 0, J, ()))
        same(self, tuple(kept(disk.blocks).items()), keeper.pairs())

    def test_a_put_of_several_blocks_that_does_not_fit_moves_whole(self):
        disk = Disk(9)
        keeper = Keeper(disk, 1)
        for value in ((1,), (2,), (3,)):
            keeper.put(K, value)
        keeper.put(K, (4, 5))
        same(self, disk.blocks, (
            (1, 1, 1, 1), (0, 0, 1, 0, K, (1,)), (0, 1, 1, 0, K, (2,)), (0, 2, 1, 0, K, (3,)), None,
            (1, 0, 1, 1, K, (4,)), (1, 1, 1, 0, K, (5,)), None, None))
        keeper.put(L, (6, 7))
        same(self, disk.waiting, ((7, (1, 2, 1, 1, L, (6,))), (8, (1, 3, 1, 0, L, (7,)))))

    def test_a_drop_that_does_not_fit_moves(self):
        keeper = self.full_keeper()
        disk = keeper.disk
        same(self, keeper.drop(K), True)
        same(self, disk.blocks[0], (1, 1, 1, 1))
        same(self, disk.blocks[5:], ((1, 0, 1, 0, L, (4,)), None, None, None, None))
        same(self, keeper.pairs(), ((L, (4,)),))
        keeper.put(K, ())
        same(self, disk.waiting, ((6, (1, 1, 1, 0, K, ())),))

    def test_a_drop_of_the_last_key_moves_nothing(self):
        for steps in range(3):
            keeper = Keeper(Disk(3), 1)
            keeper.put(K, (1,))
            keeper.disk.set_fuse(steps)
            check_error(self, Fallen, {"steps": steps}, keeper.drop, K)
        disk = Disk(3)
        keeper = Keeper(disk, 1)
        keeper.put(K, (1,))
        disk.set_fuse(3)
        same(self, keeper.drop(K), True)
        same(self, disk.blocks, ((1, 1, 1, 1), (0, 0, 1, 0, K, (1,)), None))
        disk.set_fuse(None)
        keeper.put(L, ())
        same(self, disk.waiting, ((2, (1, 0, 1, 0, L, ())),))
        keeper.put(L, (1,))
        same(self, disk.blocks, ((2, 0, 1, 1), (2, 0, 1, 0, L, (1,)), (1, 0, 1, 0, L, ())))

    def test_the_same_value_anew_may_move(self):
        keeper = self.full_keeper()
        keeper.put(L, (4,))
        same(self, keeper.disk.blocks[0], (1, 1, 1, 1))
        same(self, keeper.pairs(), ((K, (1, 2, 3)), (L, (4,))))

    def test_a_move_flushes_what_waited(self):
        disk = Disk(5)
        keeper = Keeper(disk, 1)
        keeper.put(K, (1,))
        keeper.put(K, (2,))
        same(self, len(disk.waiting), 2)
        keeper.put(L, (3,))
        same(self, disk.waiting, ())
        same(self, disk.blocks, ((1, 1, 1, 1), (0, 0, 1, 0, K, (1,)), (0, 1, 1, 0, K, (2,)),
                                 (1, 0, 1, 0, K, (2,)), (1, 1, 1, 0, L, (3,))))

    def test_each_step_of_a_move(self):
        rows = ((5, (1, 0, 1, 1, K, (1, 2))), (6, (1, 1, 1, 0, K, (3,))), (7, (1, 2, 1, 0, L, (4,))),
                (8, (1, 3, 1, 0, M, ())))
        for steps in range(7):
            keeper = self.full_keeper()
            disk = keeper.disk
            before = disk.blocks
            disk.set_fuse(steps)
            check_error(self, Fallen, {"steps": steps}, keeper.put, M, ())
            if steps <= 4:
                same(self, (disk.blocks, disk.waiting), (before, rows[:steps]))
            else:
                same(self, disk.blocks, before[:5] + tuple(block for _, block in rows) + (None,))
                same(self, disk.waiting, ((0, (1, 1, 1, 1)),) if steps == 6 else ())
        keeper = self.full_keeper()
        keeper.disk.set_fuse(7)
        keeper.put(M, ())
        same(self, keeper.weight() + 3, 7)

    def test_steps_of_calls(self):
        for size, width in ((9, 1), (9, 2), (12, 3)):
            room = (size - 1) // 2
            for many in range(room * width + 1):
                disk = Disk(size)
                Keeper(disk, width).put(J, tuple(range(many)))
                disk.flush()
                blocks = max(1, -(-many // width))
                same(self, steps_of(Disk(size), lambda other: Keeper(other, width).put(J, tuple(range(many)))),
                     2 + blocks)
                same(self, steps_of(disk, lambda other: Keeper(other, width).flush()), 3)
                anew = blocks if 2 * blocks <= room else blocks + 3
                same(self, steps_of(disk, lambda other: Keeper(other, width).put(J, tuple(range(many)))), 2 + anew)
                gone = 1 if blocks + 1 <= room else 3
                same(self, steps_of(disk, lambda other: Keeper(other, width).drop(J)), 2 + gone)
                same(self, steps_of(disk, lambda other: Keeper(other, width).drop(K)), 2)
                for call in (lambda keeper: keeper.get(J), lambda keeper: keeper.pairs(),
                             lambda keeper: keeper.weight()):
                    same(self, steps_of(disk, lambda other: call(Keeper(other, width))), 2)


class FullDisks(unittest.TestCase):
    def check_full(self, keeper, key, value):
        disk = keeper.disk
        before = (disk.blocks, disk.waiting, keeper.pairs(), keeper.weight(), keeper.get(key))
        disk.set_fuse(0)
        check_error(self, Full, {"size": disk.size}, keeper.put, key, value)
        disk.set_fuse(None)
        same(self, (disk.blocks, disk.waiting, keeper.pairs(), keeper.weight(), keeper.get(key)), before)

    def test_just_as_much_as_fits(self):
        for size in range(3, 12):
            room = (size - 1) // 2
            for width in (1, 2):
                keeper = Keeper(Disk(size), width)
                self.check_full(keeper, K, tuple(range(room * width + 1)))
                keeper.put(K, tuple(range(room * width)))
                same(self, keeper.weight(), room)
                self.check_full(keeper, L, ())
                self.check_full(keeper, K, tuple(range(room * width + 1)))
                keeper.put(K, tuple(range(room * width)))
                keeper.flush()
                same(self, kept(keeper.disk.blocks), {K: tuple(range(room * width))})

    def test_weight_counts_the_map_behind_the_deed(self):
        keeper = Keeper(Disk(9), 1)
        keeper.put(K, (1, 2, 3))
        keeper.put(L, (4,))
        self.check_full(keeper, L, (5, 6))
        self.check_full(keeper, M, ())
        keeper.put(K, ())
        keeper.put(L, (5, 6))
        keeper.put(M, ())
        same(self, keeper.pairs(), ((K, ()), (L, (5, 6)), (M, ())))
        self.check_full(keeper, K, (1, 2))
        same(self, keeper.drop(L), True)
        keeper.put(K, (1, 2, 3))
        same(self, keeper.pairs(), ((K, (1, 2, 3)), (M, ())))
        same(self, kept(keeper.disk.blocks), {K: (1, 2, 3), M: ()})

    def test_a_keeper_goes_on_behind_full(self):
        keeper = Keeper(Disk(5), 1)
        keeper.put(K, (1, 2))
        self.check_full(keeper, L, (3,))
        other = Keeper(Disk(5), 1)
        other.put(K, (1, 2))
        for each in (keeper, other):
            each.put(K, (7,))
            each.put(L, (8,))
            each.flush()
        same(self, keeper.disk.blocks, other.disk.blocks)


if __name__ == "__main__":
    unittest.main()
