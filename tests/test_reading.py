"""Promises [9], [10], [11]: records, and how the blocks of a disk are read."""

import itertools
import unittest

from keptfiles.keeper import cell_at, kept, log_of, map_of, record_of
from tests.helpers import same

K = ("k",)
L = ("l", (1, "x"))


def with_half(size, root, half, row):
    """Blocks with this root, and this row from the first block of a half on."""
    blocks = [None] * size
    blocks[0] = root
    first = 1 + half * ((size - 1) // 2)
    blocks[first:first + len(row)] = row
    assert len(blocks) == size
    return tuple(blocks)


class Records(unittest.TestCase):
    def test_no_cells(self):
        for width in (1, 3):
            same(self, record_of(K, (), 0, 0, 1, width), ((0, 0, 1, 0, K, ()),))

    def test_one_cell(self):
        for width in (1, 3):
            same(self, record_of(K, (9,), 2, 5, 3, width), ((2, 5, 3, 0, K, (9,)),))

    def test_just_width_cells(self):
        same(self, record_of(K, (1, 2, 3), 0, 1, 4, 3), ((0, 1, 4, 0, K, (1, 2, 3)),))

    def test_one_cell_more_than_width(self):
        same(self, record_of(L, (1, 2, 3, 4), 7, 10, 4, 3),
             ((7, 10, 4, 1, L, (1, 2, 3)), (7, 11, 4, 0, L, (4,))))

    def test_several_groups(self):
        value = (None, "a", (1, (None,)), -4, "")
        same(self, record_of(L, value, 1, 2, 3, 1), tuple((1, 2 + at, 3, 4 - at, L, (value[at],)) for at in range(5)))
        same(self, record_of(L, value, 1, 2, 3, 2),
             ((1, 2, 3, 2, L, value[:2]), (1, 3, 3, 1, L, value[2:4]), (1, 4, 3, 0, L, value[4:])))
        same(self, record_of(L, value[:4], 1, 2, 3, 2), ((1, 2, 3, 1, L, value[:2]), (1, 3, 3, 0, L, value[2:4])))

    def test_a_drop(self):
        for width in (1, 16):
            same(self, record_of(K, None, 4, 6, 2, width), ((4, 6, 2, 0, K, None),))

    def test_by_names(self):
        same(self, record_of(key=(), value=(1,), generation=2, index=3, run=4, width=5), ((2, 3, 4, 0, (), (1,)),))

    def test_lengths(self):
        for width in range(1, 5):
            for many in range(13):
                record = record_of(K, tuple(range(many)), 0, 0, 1, width)
                self.assertEqual(len(record), max(1, -(-many // width)))
                self.assertEqual([cell for block in record for cell in block[5]], list(range(many)))
                self.assertEqual([block[3] for block in record], list(range(len(record)))[::-1])


class Reading(unittest.TestCase):
    """Every disk here has nine blocks, so halves of four, but where a test says something else."""

    def read(self, row, entries, end, root=(3, 0, 5, 2)):
        for half in (0, 1):
            blocks = with_half(9, (root[0], half) + root[2:], half, row)
            same(self, log_of(blocks), (entries, end))
            same(self, list(kept(blocks).items()), list(map_of(entries).items()))

    def test_empty_root(self):
        row = record_of(K, (1, 2), 0, 0, 1, 1)
        for half in (0, 1):
            same(self, log_of(with_half(9, None, half, row)), ((), 0))
            same(self, kept(with_half(9, None, half, row)), {})
        same(self, log_of((None, None, None)), ((), 0))

    def test_empty_half(self):
        self.read((), (), 0)
        self.read((None, (3, 1, 5, 0, K, (1,))), (), 0)

    def test_row_of_records(self):
        row = record_of(K, (1, 2), 3, 0, 2, 1) + record_of(L, (), 3, 2, 2, 1) + record_of(K, None, 3, 3, 5, 1)
        self.read(row[:1], (), 0)
        self.read(row[:2], ((K, (1, 2)),), 2)
        self.read(row[:3], ((K, (1, 2)), (L, ())), 3)
        self.read(row, ((K, (1, 2)), (L, ()), (K, None)), 4)

    def test_parts_of_any_length(self):
        row = ((3, 0, 2, 3, K, ()), (3, 1, 2, 2, K, (1, 2)), (3, 2, 2, 1, K, ()), (3, 3, 2, 0, K, (3,)))
        self.read(row, ((K, (1, 2, 3)),), 4)

    def test_wrong_first_blocks(self):
        ahead = record_of(L, (0,), 3, 0, 4, 1)
        self.read(ahead + ((3, 1, 4, 0, K, (1,)),), ((L, (0,)), (K, (1,))), 2)
        wrong = ((2, 1, 4, 0, K, (1,)), (4, 1, 4, 0, K, (1,)),  # generation
                 (3, 0, 4, 0, K, (1,)), (3, 2, 4, 0, K, (1,)),  # index
                 (3, 1, 6, 0, K, (1,)),  # run above the root's
                 (3, 1, 3, 0, K, (1,)), (3, 1, 0, 0, K, (1,)),  # run below that of the record before
                 (3, 1, 4, 1, K, None), (3, 1, 4, 2, K, None),  # a drop with blocks behind it
                 (3, 1, 4, 1, K, (1,)), (3, 1, 4, 2, K, (1,)),  # what should come behind it is not there
                 None)
        for block in wrong:
            behind = ((3, 2, 4, 0, L, (2,)), (3, 3, 4, 0, L, (3,)))
            self.read(ahead + (block,) + behind, ((L, (0,)),), 1)

    def test_runs_of_first_records(self):
        for run in range(8):
            row = record_of(K, (1,), 3, 0, run, 1)
            if 2 <= run <= 5:
                self.read(row, ((K, (1,)),), 1)
            else:
                self.read(row, (), 0)

    def test_runs_may_grow_and_stay(self):
        for first, second in itertools.product(range(2, 6), repeat=2):
            row = record_of(K, (1,), 3, 0, first, 1) + record_of(L, None, 3, 1, second, 1)
            if first <= second:
                self.read(row, ((K, (1,)), (L, None)), 2)
            else:
                self.read(row, ((K, (1,)),), 1)

    def test_the_run_before_counts_not_the_greatest(self):
        # A reader that forgets the run of the record just before would take the third record.
        row = tuple((3, at, run, 0, K, (at,)) for at, run in enumerate((2, 5, 4, 5)))
        self.read(row, ((K, (0,)), (K, (1,))), 2)

    def test_wrong_later_blocks(self):
        right = record_of(K, (1, 2, 3), 3, 1, 4, 1)
        ahead = record_of(L, (0,), 3, 0, 3, 1)
        self.read(ahead + right, ((L, (0,)), (K, (1, 2, 3))), 4)
        for at in (1, 2):
            good = right[at]
            changes = [(0, 2), (0, 4), (1, good[1] - 1), (1, good[1] + 1), (2, 3), (2, 5), (3, good[3] + 1),
                       (4, L), (4, ()), (4, ("k", 0)), (5, None)]
            if good[3] > 0:
                changes.append((3, good[3] - 1))
            for place, content in changes:
                row = list(right)
                row[at] = good[:place] + (content,) + good[place + 1:]
                self.read(ahead + tuple(row), ((L, (0,)),), 1)
            row = list(right)
            row[at] = None
            self.read(ahead + tuple(row), ((L, (0,)),), 1)

    def test_left_may_be_any_number(self):
        for left in (1, 2, 3, 4, 5, 8, 10 ** 30):
            row = tuple((3, at, 2, left - at, K, (at,)) for at in range(4) if left >= at)
            if left == 3:
                self.read(row, ((K, (0, 1, 2, 3)),), 4)
            elif left < 3:
                self.read(row[:left], (), 0)
                self.read(row[:left + 1], ((K, tuple(range(left + 1))),), left + 1)
            else:
                self.read(row, (), 0)

    def test_a_record_never_leaves_its_half(self):
        record = record_of(K, (0, 1, 2, 3, 4), 3, 0, 2, 1)
        for size, half in ((9, 0), (10, 0), (10, 1)):
            same(self, log_of(with_half(size, (3, half, 2, 2), half, record)), ((), 0))
        full = record_of(K, (0, 1, 2, 3), 3, 0, 2, 1) + record_of(L, (5,), 3, 4, 2, 1)
        for size, half in ((9, 0), (10, 0), (10, 1)):
            same(self, log_of(with_half(size, (3, half, 2, 2), half, full)), (((K, (0, 1, 2, 3)),), 4))

    def test_the_other_half_is_never_read(self):
        rows = (record_of(K, (1, 2), 3, 0, 2, 1), record_of(L, (7,), 3, 0, 2, 1))
        entries = (((K, (1, 2)),), ((L, (7,)),))
        for size in (9, 10):
            blocks = [None] * size
            blocks[1:3] = rows[0]
            blocks[5:6] = rows[1]
            for half in (0, 1):
                blocks[0] = (3, half, 2, 2)
                same(self, log_of(tuple(blocks)), ((entries[half],)[0], 2 - half))
                same(self, kept(tuple(blocks)), dict(entries[half]))

    def test_blocks_behind_both_halves_are_never_read(self):
        row = record_of(K, (1,), 3, 0, 2, 1)
        behind = (3, 1, 2, 0, L, (2,))
        same(self, log_of(((3, 1, 2, 2), None) + row + (behind,)), (((K, (1,)),), 1))
        same(self, log_of(((3, 1, 2, 2), None, None, behind)), ((), 0))

    def test_smallest_disks(self):
        for size in (3, 4):
            for half in (0, 1):
                row = record_of(K, (1,), 0, 0, 1, 1)
                blocks = with_half(size, (0, half, 1, 1), half, row)
                same(self, log_of(blocks), (((K, (1,)),), 1))
                blocks = with_half(size, (0, half, 1, 1), 1 - half, row)
                same(self, log_of(blocks), ((), 0))

    def test_by_names(self):
        blocks = with_half(3, (0, 0, 1, 1), 0, record_of(K, (1,), 0, 0, 1, 1))
        same(self, log_of(blocks=blocks), (((K, (1,)),), 1))
        same(self, kept(blocks=blocks), {K: (1,)})
        same(self, cell_at(blocks=blocks, key=K, place=0), (1, 0))
        same(self, map_of(entries=((K, (1,)),)), {K: (1,)})


def entries_told(blocks):
    """What [11] says of log_of, told in another way: each prefix of the half is asked on its own."""
    if blocks[0] is None:
        return (), 0
    generation, half, run, base = blocks[0]
    room = (len(blocks) - 1) // 2
    row = blocks[1 + half * room:1 + half * room + room]
    entries, end = [], 0
    while end < room and row[end] is not None:
        _, _, own, left, key, part = row[end]
        record = row[end:end + left + 1]
        ok = len(record) == left + 1 and base <= own <= run and (part is not None or left == 0)
        for at, block in enumerate(record):
            ok = ok and block is not None
            ok = ok and block == (generation, end + at, own, left - at, key, block[5])
            ok = ok and (at == 0 or block[5] is not None)
        if not ok:
            break
        entries.append((key, None if part is None else sum([block[5] for block in record], ())))
        base, end = own, end + left + 1
    return tuple(entries), end


class AllBlocks(unittest.TestCase):
    def test_all_halves_of_two_blocks(self):
        contents = [None]
        for generation, index, run, left in itertools.product((0, 1), (0, 1), (1, 2, 3), (0, 1)):
            for key, part in itertools.product(((1,), (2,)), (None, (), (8, 9))):
                contents.append((generation, index, run, left, key, part))
        for root in ((1, 0, 2, 1), (1, 0, 3, 2)):
            for row in itertools.product(contents, repeat=2):
                blocks = (root,) + row + (None, None)
                self.assertEqual(log_of(blocks), entries_told(blocks), blocks)

    def test_all_short_changes_of_a_longer_half(self):
        row = record_of(K, (1, 2), 3, 0, 4, 1) + record_of(L, (3, 4, 5), 3, 2, 5, 1)
        row += record_of(K, None, 3, 5, 5, 1)
        changed = []
        for at, block in enumerate(row):
            changed.append((at, None))
            changed.append((at, block[:4] + (L if block[4] == K else K,) + block[5:]))
            changed += [(at, block[:5] + (part,)) for part in (None, (), (7, 7))]
            for place in range(4):
                for by in (-2, -1, 1, 2):
                    number = block[place] + by
                    if number >= 0:
                        changed.append((at, block[:place] + (number,) + block[place + 1:]))
        for first, second in itertools.product(changed, repeat=2):
            blocks = [(3, 1, 6, 3)] + [None] * 6 + list(row)
            for at, block in (first, second):
                blocks[7 + at] = block
            self.assertEqual(log_of(tuple(blocks)), entries_told(tuple(blocks)), blocks)


class Maps(unittest.TestCase):
    def check(self, entries, pairs):
        found = map_of(entries)
        self.assertIs(type(found), dict)
        same(self, list(found.items()), pairs)

    def test_empty(self):
        self.check((), [])
        self.check([], [])

    def test_put_and_put_anew(self):
        self.check(((K, (1,)), (L, ()), (K, (2, 3))), [(K, (2, 3)), (L, ())])

    def test_drops(self):
        self.check(((K, (1,)), (K, None)), [])
        self.check(((K, None),), [])
        self.check(((K, None), (K, (1,)), (L, None)), [(K, (1,))])

    def test_put_behind_a_drop_comes_last(self):
        entries = [(K, (1,)), (L, (2,)), ((), (3,)), (K, None), (K, (4,)), (L, (5,))]
        self.check(entries, [(L, (5,)), ((), (3,)), (K, (4,))])
        same(self, entries, [(K, (1,)), (L, (2,)), ((), (3,)), (K, None), (K, (4,)), (L, (5,))])

    def test_keys_are_equal_as_tuples(self):
        key = ("slot", (1, ("a",)))
        self.check(((key, (1,)), (("slot", (1, ("a",))), (2,))), [(key, (2,))])


class Cells(unittest.TestCase):
    def blocks(self):
        row = record_of(K, (10, 11, 12, 13, 14), 3, 0, 2, 2) + record_of(L, (), 3, 3, 2, 2)
        row += record_of(("m",), (20,), 3, 4, 3, 2) + record_of(K, (15, 16, 17), 3, 5, 3, 2)
        row += record_of(("m",), None, 3, 7, 3, 2) + record_of(("n",), (1,), 3, 8, 3, 2)
        row += record_of(("n",), None, 3, 9, 3, 2) + record_of(("n",), (30, 31), 3, 10, 3, 2)
        return row

    def test_cells_of_the_last_record(self):
        for half in (0, 1):
            blocks = with_half(32, (3, half, 4, 1), half, self.blocks())
            first = 1 + 15 * half
            same(self, [cell_at(blocks, K, place) for place in range(5)],
                 [(first + 5, 0), (first + 5, 1), (first + 6, 0), None, None])
            same(self, [cell_at(blocks, ("n",), place) for place in range(3)],
                 [(first + 10, 0), (first + 10, 1), None])
            same(self, [cell_at(blocks, L, place) for place in (0, 1, 10 ** 20)], [None, None, None])
            same(self, [cell_at(blocks, ("m",), place) for place in range(3)], [None, None, None])
            same(self, [cell_at(blocks, ("o",), place) for place in range(3)], [None, None, None])
            for key, value in kept(blocks).items():
                for place, cell in enumerate(value):
                    number, at = cell_at(blocks, key, place)
                    same(self, blocks[number][5][at], cell)

    def test_first_and_last(self):
        for width in range(1, 6):
            blocks = with_half(21, (0, 1, 1, 1), 1, record_of(K, tuple(range(7)), 0, 0, 1, width))
            for place in range(7):
                same(self, cell_at(blocks, K, place), (11 + place // width, place % width))
            self.assertIsNone(cell_at(blocks, K, 7))

    def test_parts_of_any_length(self):
        row = ((3, 0, 2, 3, K, ()), (3, 1, 2, 2, K, (1, 2)), (3, 2, 2, 1, K, ()), (3, 3, 2, 0, K, (3,)))
        blocks = with_half(9, (3, 0, 2, 2), 0, row)
        same(self, [cell_at(blocks, K, place) for place in range(4)], [(2, 0), (2, 1), (4, 0), None])

    def test_empty_root_and_empty_half(self):
        row = record_of(K, (1,), 0, 0, 1, 1)
        self.assertIsNone(cell_at(with_half(9, None, 0, row), K, 0))
        self.assertIsNone(cell_at(with_half(9, (0, 1, 1, 1), 0, row), K, 0))
        self.assertIsNone(cell_at(with_half(9, (1, 0, 1, 1), 0, row), K, 0))

    def test_records_that_are_not_there(self):
        row = record_of(K, (1, 2), 0, 0, 1, 2) + record_of(K, (3, 4), 0, 1, 1, 1)[:1]
        blocks = with_half(9, (0, 0, 1, 1), 0, row)
        same(self, cell_at(blocks, K, 1), (1, 1))


if __name__ == "__main__":
    unittest.main()
