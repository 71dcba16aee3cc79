"""Promises [7], [15], [16]: rows of deeds that are cut at every step, with every lot of the waiting writes."""

import itertools
import random
import unittest

from keptfiles.disk import Disk
from keptfiles.errors import Fallen, Full
from keptfiles.keeper import Keeper, cell_at, kept, log_of
from tests.helpers import copy_of, disk_with, lots

J, K, L = ("j",), ("k", 1), ("l", ("x",))
FLUSH = ("flush",)


def map_behind(pairs, row):
    """The pairs of the map that a row of (key, value) leads to from these pairs, in their order."""
    pairs = list(pairs)
    for key, value in row:
        places = [place for place, pair in enumerate(pairs) if pair[0] == key]
        if value is None:
            pairs = [pair for pair in pairs if pair[0] != key]
        elif places:
            pairs[places[0]] = (key, value)
        else:
            pairs.append((key, value))
    return tuple(pairs)


def kept_pairs(blocks):
    return tuple(kept(blocks).items())


class WatchedDisk(Disk):
    """A disk that tells which blocks of halves were written: it looks at [9] and [15] at each write."""

    def __init__(self, size, case):
        super().__init__(size)
        self.case = case
        self.written = {}

    def write(self, number, content):
        super().write(number, content)
        if number == 0:
            self.case.assertEqual(self.waiting, ((0, content),))
            return
        place = (content[0], content[2], content[1])
        self.case.assertNotIn(place, self.written, "an index was written twice with one generation and run")
        self.written[place] = True


def do(keeper, deed, row):
    """Does a deed; what is one of [7] comes behind the row, also if it falls."""
    if deed == FLUSH:
        keeper.flush()
        return
    key, value = deed
    if value is None:
        if keeper.get(key) is not None:
            row.append(deed)
        keeper.drop(key)
        return
    row.append(deed)
    try:
        keeper.put(key, value)
    except Full:
        row.pop()


def play(case, disk, deeds, width):
    """Deeds until they end or the disk falls. The row of deeds, how many of them must stay, whether it fell."""
    base = kept_pairs(disk.blocks)
    row, safe = [], 0
    try:
        keeper = Keeper(disk, width)
        case.assertEqual(keeper.pairs(), base)
        for deed in deeds:
            do(keeper, deed, row)
            case.assertEqual(keeper.pairs(), map_behind(base, row))
            if disk.waiting == ():
                safe = len(row)
                case.assertEqual(kept_pairs(disk.blocks), keeper.pairs())
    except Fallen:
        return row, safe, True
    return row, safe, False


def check_root(case, blocks):
    """No block of the half that counts has a greater run than the root."""
    if blocks[0] is not None:
        generation, half, run, base = blocks[0]
        room = (len(blocks) - 1) // 2
        for block in blocks[1 + half * room:1 + half * room + room]:
            case.assertTrue(block is None or block[2] <= run)


def fall_and_check(case, disk, lot, base, row, safe):
    """The disk falls; a beginning of the row that holds all safe deeds is kept."""
    disk.fall(lot)
    check_root(case, disk.blocks)
    allowed = [map_behind(base, row[:many]) for many in range(safe, len(row) + 1)]
    case.assertIn(kept_pairs(disk.blocks), allowed)


def cut_states(case, blocks, deeds, width):
    """The blocks behind all cuts of these deeds, at every step, with every lot; each one is looked at."""
    found = {}
    base = kept_pairs(blocks)
    steps, is_cut = 0, True
    while is_cut:
        disk = disk_with(blocks)
        disk.set_fuse(steps)
        row, safe, is_cut = play(case, disk, deeds, width)
        for lot in lots(len(disk.waiting)):
            other = copy_of(disk)
            fall_and_check(case, other, lot, base, row, safe)
            found[other.blocks] = True
        steps += 1
    return list(found)


FIRST = (((J, (1,)), (K, (2, 3)), FLUSH, (J, None), (L, ()), (K, (4,))),
         ((K, (1, 2)), (K, (3, 4)), (K, None), (J, (5,)), FLUSH, (J, (6,))),
         ((J, ()), (K, ()), (J, (7,)), FLUSH, (K, None), (J, None), (L, (8, 9))))
SECOND = (((K, (5,)), (J, None), (L, (6, 7))), ((L, (8,)), FLUSH, (K, (9, 9))))


class Cuts(unittest.TestCase):
    def check_rows(self, size, width, rows):
        states = [(None,) * size]
        for deeds in rows:
            found = {}
            for blocks in states:
                for state in cut_states(self, blocks, deeds, width):
                    found[state] = True
            states = list(found)
        return states

    def test_every_cut_of_two_rows(self):
        for size in (5, 7, 8, 9):
            for width in (1, 2):
                for rows in itertools.product(FIRST, SECOND):
                    states = self.check_rows(size, width, rows)
                    self.assertGreater(len(states), 20)

    def test_every_cut_of_three_rows(self):
        for size, width in ((3, 1), (5, 1), (6, 2), (7, 2), (9, 1)):
            for first in FIRST:
                self.check_rows(size, width, (first, SECOND[1], SECOND[0][:2]))

    def test_cut_beginnings_change_no_map(self):
        for size in (5, 7):
            for blocks in self.check_rows(size, 1, (FIRST[0],)):
                base = kept_pairs(blocks)
                states = [blocks]
                for _ in range(3):
                    states = [after for state in states for after in cut_states(self, state, (), 1)]
                    for state in states:
                        self.assertEqual(kept_pairs(state), base)

    def test_flushed_deeds_stay_behind_every_cut_of_a_move(self):
        for size in (7, 9):
            disk = Disk(size)
            keeper = Keeper(disk, 1)
            for value in range(keeper_room(size)):
                keeper.put(J, (value,))
            keeper.flush()
            states = cut_states(self, disk.blocks, ((K, (1, 2)),), 1)
            found = {kept_pairs(state) for state in states}
            last = (J, (keeper_room(size) - 1,))
            self.assertEqual(found, {(last,), (last, (K, (1, 2)))})


def keeper_room(size):
    return (size - 1) // 2


def some_deed(dice):
    key = dice.choice((J, K, L))
    kind = dice.randrange(8)
    if kind == 0:
        return FLUSH
    if kind <= 2:
        return key, None
    return key, tuple(dice.randrange(100) for _ in range(dice.randrange(5)))


class LongRuns(unittest.TestCase):
    def check_begun(self, disk, width):
        """What a Keeper writes ahead of its first move begins where reading ended, with the greatest run."""
        other = disk_with(disk.blocks)
        keeper = Keeper(other, width)
        generation, half, run, base = other.blocks[0]
        end = log_of(other.blocks)[1]
        room = keeper_room(disk.size)
        behind = other.blocks[1 + half * room + end:1 + half * room + room]
        self.assertTrue(all(block is None or block[2] < run for block in behind))
        if end < room and keeper.weight() < room:
            keeper.put(("new",), ())
            self.assertEqual(other.waiting, ((1 + half * room + end, (generation, end, run, 0, ("new",), ())),))

    def test_many_falls_of_one_disk(self):
        for seed in range(200):
            dice = random.Random(seed)
            width = dice.choice((1, 2, 3))
            disk = WatchedDisk(dice.choice((3, 5, 7, 9, 12)), self)
            for _ in range(25):
                base = kept_pairs(disk.blocks)
                disk.set_fuse(dice.choice((None, dice.randrange(25))))
                row, safe, _ = play(self, disk, [some_deed(dice) for _ in range(dice.randrange(12))], width)
                lot = [place for place in range(len(disk.waiting)) if dice.randrange(2)]
                fall_and_check(self, disk, lot, base, row, safe)
                self.check_begun(disk, width)


class Rot(unittest.TestCase):
    def spoilt(self, blocks, number, at, cell):
        generation, index, run, left, key, part = blocks[number]
        content = (generation, index, run, left, key, part[:at] + (cell,) + part[at + 1:])
        return blocks[:number] + (content,) + blocks[number + 1:]

    def cells_that_are_read(self, blocks):
        """The triples (number of a block, place in its part, number of its record) of all cells that are read."""
        _, end = log_of(blocks)
        first = 1 + blocks[0][1] * keeper_room(len(blocks))
        record = 0
        found = []
        for number in range(first, first + end):
            part = blocks[number][5]
            found += [(number, at, record) for at in range(0 if part is None else len(part))]
            record += blocks[number][3] == 0
        return found

    def check(self, blocks, width):
        entries, end = log_of(blocks)
        for number, at, record in self.cells_that_are_read(blocks):
            spoilt = self.spoilt(blocks, number, at, "rot")
            entries_now, end_now = log_of(spoilt)
            self.assertEqual(end_now, end)
            self.assertEqual([key for key, _ in entries_now], [key for key, _ in entries])
            changed = [place for place in range(len(entries)) if entries[place] != entries_now[place]]
            self.assertEqual(changed, [record])
            key, value = entries[record]
            value_now = entries_now[record][1]
            self.assertEqual(len(value), len(value_now))
            places = [place for place in range(len(value)) if value[place] != value_now[place]]
            self.assertEqual(len(places), 1)
            pairs = kept(blocks)
            is_last = key not in [other for other, _ in entries[record + 1:]]
            if is_last:
                pairs[key] = value_now
                self.assertEqual(cell_at(blocks, key, places[0]), (number, at))
            self.assertEqual(kept_pairs(spoilt), tuple(pairs.items()))
            cut_states(self, spoilt, ((K, (5,)), (J, None)), width)

    def test_a_spoilt_cell_changes_at_most_this_cell(self):
        for size, width in ((7, 1), (9, 2), (20, 2)):
            for deeds in FIRST:
                disk = Disk(size)
                play(self, disk, deeds + (FLUSH,), width)
                self.assertEqual(disk.waiting, ())
                self.check(disk.blocks, width)


class LargeDisks(unittest.TestCase):
    def fill(self, keeper, room):
        for number in range(room):
            keeper.put(("key", number), (number,))
        self.assertEqual(keeper.weight(), room)

    def test_a_disk_of_4000_blocks(self):
        disk = Disk(4000)
        keeper = Keeper(disk, 1)
        room = keeper_room(4000)
        self.fill(keeper, room)
        self.assertEqual(len(disk.waiting), room)
        with self.assertRaises(Full) as caught:
            keeper.put(("more",), ())
        self.assertEqual(caught.exception.size, 4000)
        disk.set_fuse(room + 3)
        keeper.put(("key", 0), (-1,))
        disk.set_fuse(None)
        self.assertEqual(disk.blocks[0], (1, 1, 1, 1))
        self.assertEqual(disk.blocks[room], (0, room - 1, 1, 0, ("key", room - 1), (room - 1,)))
        self.assertEqual(disk.blocks[room + 1], (1, 0, 1, 0, ("key", 0), (-1,)))
        self.assertIsNone(disk.blocks[-1])
        self.assertEqual(kept_pairs(disk.blocks), keeper.pairs())
        self.assertEqual(cell_at(disk.blocks, ("key", room - 1), 0), (2 * room, 0))
        self.assertEqual(Keeper(disk, 1).pairs(), keeper.pairs())

    def test_one_value_on_a_whole_half(self):
        for width in (1, 16):
            disk = Disk(4000)
            keeper = Keeper(disk, width)
            value = tuple(range(keeper_room(4000) * width))
            keeper.put(K, value)
            keeper.flush()
            keeper.put(K, value[::-1])
            self.assertEqual(disk.blocks[0], (1, 1, 1, 1))
            self.assertEqual(Keeper(disk, width).get(K), value[::-1])
            number, at = cell_at(disk.blocks, K, len(value) - 1)
            self.assertEqual((number, at), (2 * keeper_room(4000), width - 1))

    def test_a_full_disk_is_cut_in_a_move(self):
        room = keeper_room(4000)
        disk = Disk(4000)
        keeper = Keeper(disk, 1)
        self.fill(keeper, room)
        keeper.flush()
        before = keeper.pairs()
        disk.set_fuse(room + 1)
        with self.assertRaises(Fallen):
            keeper.drop(("key", room - 1))
        for lot, pairs in (((), before), ((0,), before[:-1])):
            other = copy_of(disk)
            other.fall(lot)
            self.assertEqual(kept_pairs(other.blocks), pairs)


if __name__ == "__main__":
    unittest.main()
