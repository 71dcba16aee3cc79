"""Promises [45] to [49]: what a shelf keeps and answers."""

import unittest

from keptfiles.disk import Disk
from keptfiles.errors import Fallen
from keptfiles.keeper import Keeper, cell_at, kept, log_of, record_of
from keptfiles.shelves import Shelf, held, life_on
from tests.helpers import check_bad_number, copy_of, lots, same, steps_of

W0, W1, W2, B0 = ("ann", 0), ("ann", 1), ("ann", 10), ("bob", 0)


def begun(size=60, width=2, life=3):
    return Shelf("s2", Disk(size), width, life)


def told(shelf, word, *body, source="ann"):
    """The pair (word, body) of the answer to a letter, None without one; it goes to the source of the letter."""
    letters = shelf.hear((source, "s2", word, body))
    assert isinstance(letters, tuple) and len(letters) <= 1
    if not letters:
        return None
    assert letters[0][:2] == ("s2", source)
    return letters[0][2:]


def look(shelf):
    """All of a disk that a letter may change."""
    return shelf.disk.blocks, shelf.disk.waiting, shelf.keeper.pairs()


class Checks(unittest.TestCase):
    def check_still(self, shelf, answer, word, *body, source="ann"):
        """The answer, without a step of the disk."""
        before = look(shelf)
        shelf.disk.set_fuse(0)
        same(self, told(shelf, word, *body, source=source), answer)
        shelf.disk.set_fuse(None)
        same(self, look(shelf), before)

    def check_deed(self, shelf, answer, key, value, word, *body):
        """The answer behind one record and a flush, and nothing else; value is None for a drop."""
        blocks = shelf.disk.blocks
        generation, half, run, _ = blocks[0]
        end = log_of(blocks)[1]
        record = record_of(key, value, generation, end, run, shelf.keeper.width)
        at = 1 + half * ((len(blocks) - 1) // 2) + end
        short = Shelf("s2", copy_of(shelf.disk), shelf.keeper.width, 0)
        short.disk.set_fuse(len(record))
        with self.assertRaises(Fallen):
            short.hear(("ann", "s2", word, body))
        shelf.disk.set_fuse(len(record) + 1)
        same(self, told(shelf, word, *body), answer)
        shelf.disk.set_fuse(None)
        same(self, shelf.disk.blocks, blocks[:at] + record + blocks[at + len(record):])
        same(self, shelf.disk.waiting, ())
        same(self, shelf.keeper.get(key), value)


class Beginning(Checks):
    def test_attributes(self):
        disk = Disk(60)
        shelf = Shelf("s2", disk, 2, 5)
        same(self, (shelf.name, shelf.life), ("s2", 5))
        self.assertIs(shelf.disk, disk)
        self.assertIsInstance(shelf.keeper, Keeper)
        self.assertIs(shelf.keeper.disk, disk)
        same(self, shelf.keeper.width, 2)

    def test_on_an_empty_disk(self):
        shelf = begun(life=7)
        record = record_of(("life",), (7,), 0, 0, 1, 2)
        same(self, shelf.disk.blocks, ((0, 0, 1, 1),) + record + (None,) * 58)
        same(self, shelf.disk.waiting, ())
        same(self, shelf.keeper.pairs(), ((("life",), (7,)),))
        same(self, steps_of(Disk(60), lambda disk: Shelf("s2", disk, 2, 7)), 4)

    def test_on_a_disk_that_a_shelf_wrote(self):
        first = begun(life=0)
        told(first, "put", W0, (1, 2, 3))
        blocks = first.disk.blocks
        same(self, steps_of(first.disk, lambda disk: Shelf("s2", disk, 2, 0)), 2)
        again = Shelf("s2", first.disk, 2, 9)
        same(self, again.life, 0)
        same(self, again.disk.blocks, ((0, 0, 2, 1),) + blocks[1:])
        same(self, held(again.disk.blocks), ((W0, (1, 2, 3)),))

    def test_cut_beginnings(self):
        for steps in range(4):
            for lot in lots(1 if steps % 2 else 0):
                disk = Disk(60)
                disk.set_fuse(steps)
                with self.assertRaises(Fallen):
                    Shelf("s2", disk, 2, 4)
                disk.fall(lot)
                same(self, life_on(disk.blocks), 4 if steps == 3 and lot else None)
                same(self, held(disk.blocks), ())
                shelf = Shelf("s2", disk, 2, 4)
                same(self, (shelf.life, life_on(disk.blocks)), (4, 4))

    def test_errors_of_the_keeper(self):
        check_bad_number(self, "width", 0, Shelf, "s1", Disk(9), 0, 0)
        check_bad_number(self, "size", 2, Shelf, "s1", Disk(2), 1, 0)

    def test_the_smallest_disk(self):
        shelf = begun(9, 1, 2)
        same(self, told(shelf, "put", W0, (1, 2, 3)), ("kept", (W0, 2)))
        same(self, told(shelf, "put", W1, ()), ("full", (W1, 2)))


class Put(Checks):
    def test_a_new_write(self):
        shelf = begun()
        self.check_deed(shelf, ("kept", (W0, 3)), ("piece", W0), (4, 5, 6), "put", W0, (4, 5, 6))
        self.check_deed(shelf, ("kept", (B0, 3)), ("piece", B0), (), "put", B0, ())
        self.check_deed(shelf, ("kept", (W1, 3)), ("piece", W1), tuple(range(9)), "put", W1, tuple(range(9)))
        same(self, held(shelf.disk.blocks), ((W0, (4, 5, 6)), (W1, tuple(range(9))), (B0, ())))

    def test_a_write_that_is_there(self):
        shelf = begun()
        told(shelf, "put", W0, (4, 5))
        told(shelf, "put", W1, ())
        self.check_still(shelf, ("kept", (W0, 3)), "put", W0, (4, 5))
        self.check_still(shelf, ("kept", (W0, 3)), "put", W0, (4, 6))
        self.check_still(shelf, ("kept", (W0, 3)), "put", W0, (4, 5), source="zoe")
        self.check_still(shelf, ("kept", (W1, 3)), "put", W1, (1,))
        same(self, held(shelf.disk.blocks), ((W0, (4, 5)), (W1, ())))

    def test_full(self):
        shelf = begun(13, 2)
        told(shelf, "put", W0, (1, 2, 3, 4, 5))
        told(shelf, "put", W1, (1,))
        self.check_still(shelf, ("full", (W2, 3)), "put", W2, (1, 2, 3, 4))
        same(self, told(shelf, "put", B0, (7, 8)), ("kept", (B0, 3)))
        self.check_still(shelf, ("full", (W2, 3)), "put", W2, ())
        self.check_still(shelf, ("kept", (W0, 3)), "put", W0, (1, 2, 3, 4, 5))
        same(self, told(shelf, "drop", 0, W0), ("gone", (0, W0)))
        same(self, told(shelf, "put", W2, (1, 2, 3, 4)), ("kept", (W2, 3)))
        same(self, held(shelf.disk.blocks), ((W1, (1,)), (W2, (1, 2, 3, 4)), (B0, (7, 8))))

    def test_a_put_that_moves(self):
        shelf = begun(13, 2)
        told(shelf, "put", W0, (1, 2, 3, 4, 5))
        told(shelf, "drop", 0, W0)
        other = copy_of(shelf.disk)
        again = Shelf("s2", other, 2, 0)
        # Life and piece are three blocks; a move has a flush, the root and a flush more, and one flush follows.
        other.set_fuse(3 + 3 + 1)
        same(self, told(again, "put", W1, (1, 2, 3)), ("kept", (W1, 3)))
        other.fall(())
        same(self, held(other.blocks), ((W1, (1, 2, 3)),))
        shelf.disk.set_fuse(3 + 3)
        with self.assertRaises(Fallen):
            told(shelf, "put", W1, (1, 2, 3))
        shelf.disk.fall(())
        same(self, held(shelf.disk.blocks), ((W1, (1, 2, 3)),))


class OtherWords(Checks):
    def begun_with(self):
        shelf = begun()
        told(shelf, "put", W0, (4, 5, 6))
        told(shelf, "put", W1, ())
        told(shelf, "put", W2, (1, 2))
        told(shelf, "drop", 0, W2)
        return shelf

    def test_get(self):
        shelf = self.begun_with()
        self.check_still(shelf, ("piece", (8, W0, (4, 5, 6), 3)), "get", 8, W0)
        self.check_still(shelf, ("piece", (0, W1, (), 3)), "get", 0, W1, source="bob")
        self.check_still(shelf, ("piece", (8, W2, None, 3)), "get", 8, W2)
        self.check_still(shelf, ("piece", (8, B0, None, 3)), "get", 8, B0)

    def test_tell(self):
        shelf = begun()
        self.check_still(shelf, ("holds", (0, 3, ())), "tell", 0)
        for write in (W2, B0, W0, W1):
            told(shelf, "put", write, (1,))
        self.check_still(shelf, ("holds", (5, 3, (W0, W1, W2, B0))), "tell", 5, source="zoe")

    def test_drop(self):
        shelf = self.begun_with()
        self.check_still(shelf, ("gone", (4, W2)), "drop", 4, W2)
        self.check_still(shelf, ("gone", (4, B0)), "drop", 4, B0)
        self.check_deed(shelf, ("gone", (4, W0)), ("piece", W0), None, "drop", 4, W0)
        self.check_still(shelf, ("gone", (4, W0)), "drop", 4, W0)
        self.check_deed(shelf, ("gone", (5, W1)), ("piece", W1), None, "drop", 5, W1)
        same(self, (held(shelf.disk.blocks), life_on(shelf.disk.blocks)), ((), 3))
        self.check_deed(shelf, ("kept", (W0, 3)), ("piece", W0), (9,), "put", W0, (9,))

    def test_fix(self):
        shelf = self.begun_with()
        self.check_still(shelf, ("fixed", (6, W0, 0)), "fix", 6, W0, (4, 5, 6))
        self.check_still(shelf, ("fixed", (6, W1, 0)), "fix", 6, W1, ())
        self.check_still(shelf, ("fixed", (6, W2, 0)), "fix", 6, W2, (1, 2))
        self.check_still(shelf, ("fixed", (6, B0, 0)), "fix", 6, B0, (1, 2))
        self.check_deed(shelf, ("fixed", (6, W0, 1)), ("piece", W0), (4, 0, 6), "fix", 6, W0, (4, 0, 6))
        self.check_still(shelf, ("fixed", (7, W0, 0)), "fix", 7, W0, (4, 0, 6))
        same(self, held(shelf.disk.blocks), ((W0, (4, 0, 6)), (W1, ())))

    def test_fix_on_a_full_disk(self):
        shelf = begun(9, 2)
        told(shelf, "put", W0, (1, 2, 3))
        told(shelf, "put", W1, (1, 2))
        same(self, told(shelf, "put", W2, ()), ("full", (W2, 3)))
        same(self, told(shelf, "fix", 0, W0, (1, 2, 4)), ("fixed", (0, W0, 1)))
        same(self, held(shelf.disk.blocks), ((W0, (1, 2, 4)), (W1, (1, 2))))

    def test_words_that_mean_nothing(self):
        shelf = self.begun_with()
        for word in ("", "ask", "set", "fold", "kept", "piece", "holds", "gone", "fixed", "full", "Put"):
            for body in ((), (1,), (W0, (1,)), (1, W0), (1, W0, (1,))):
                self.check_still(shelf, None, word, *body)


class Blocks(Checks):
    def test_empty_blocks(self):
        for size in (9, 60):
            same(self, held((None,) * size), ())
            same(self, life_on((None,) * size), None)

    def test_other_keys(self):
        disk = Disk(60)
        keeper = Keeper(disk, 2)
        for key, value in (((), (1,)), (("life", 1), (4,)), (("slot", 3), (1, 2)), (("piece", B0), (5, 6)),
                           (("piece", W0), ())):
            keeper.put(key, value)
        keeper.flush()
        same(self, held(disk.blocks), ((W0, ()), (B0, (5, 6))))
        same(self, life_on(disk.blocks), None)

    def test_spoiled_cells(self):
        shelf = begun()
        told(shelf, "put", W0, (4, 5, 6))
        told(shelf, "put", W1, (7, 8))
        number, at = cell_at(shelf.disk.blocks, ("piece", W0), 2)
        block = shelf.disk.blocks[number]
        shelf.disk.spoil(number, block[:5] + (block[5][:at] + (9,) + block[5][at + 1:],))
        same(self, held(shelf.disk.blocks), ((W0, (4, 5, 9)), (W1, (7, 8))))
        again = Shelf("s2", shelf.disk, 2, 3)
        self.check_still(again, ("piece", (0, W0, (4, 5, 9), 3)), "get", 0, W0)
        self.check_still(again, ("kept", (W0, 3)), "put", W0, (4, 5, 6))
        same(self, told(again, "fix", 0, W0, (4, 5, 6)), ("fixed", (0, W0, 1)))
        self.check_still(again, ("piece", (0, W0, (4, 5, 6), 3)), "get", 0, W0)
        same(self, held(again.disk.blocks), ((W0, (4, 5, 6)), (W1, (7, 8))))


class Falls(Checks):
    """Rows of letters on disks of several sizes, each letter cut at each step with each lot."""

    LETTERS = (("put", (W0, (1, 2, 3))), ("put", (W1, ())), ("tell", (0,)), ("fix", (0, W0, (1, 5, 3))),
               ("put", (W2, (6, 6))), ("drop", (1, W1)), ("fix", (0, W0, (1, 2, 3))), ("get", (0, W0)),
               ("put", (W1, ())), ("drop", (2, W0)), ("put", (B0, (9, 9, 9, 9))), ("put", (W0, (1, 2, 3))))

    def maps(self, disk):
        return held(disk.blocks), life_on(disk.blocks)

    def test_letters_that_are_cut(self):
        for size, width in ((13, 2), (17, 1), (25, 2), (60, 3)):
            shelf = begun(size, width, 1)
            for word, body in self.LETTERS:
                before = self.maps(shelf.disk)
                cuts = self.cut_everywhere(shelf, word, body)
                answer = told(shelf, word, *body)
                after = self.maps(shelf.disk)
                self.assertLessEqual(set(cuts), {before, after})
                same(self, shelf.disk.waiting, ())
                same(self, self.maps(shelf.disk), (tuple(sorted(
                    (key[1], value) for key, value in shelf.keeper.pairs() if key != ("life",))), 1))
                # A letter that is heard again changes nothing, and only "fixed" is another one.
                repeated = (answer[0], answer[1][:2] + (0,)) if word == "fix" else answer
                self.check_still(shelf, repeated, word, *body)

    def cut_everywhere(self, shelf, word, body):
        """What lies on the disk behind each fall; a shelf that begins on it, cut or not, keeps it."""
        found = []
        steps = 0
        while True:
            disk = copy_of(shelf.disk)
            again = Shelf("s2", disk, shelf.keeper.width, 0)
            disk.set_fuse(steps)
            try:
                again.hear(("ann", "s2", word, body))
                return found
            except Fallen:
                waiting = len(disk.waiting)
            for lot in lots(waiting) if waiting < 5 else ((), (0,), tuple(range(waiting))):
                other = copy_of(disk)
                other.fall(lot)
                found.append(self.maps(other))
                self.check_beginnings(other, shelf.keeper.width)
            steps += 1

    def check_beginnings(self, disk, width):
        before = self.maps(disk)
        for steps in (0, 1):
            disk.set_fuse(steps)
            with self.assertRaises(Fallen):
                Shelf("s2", disk, width, 8)
            disk.fall(tuple(range(len(disk.waiting))))
            same(self, self.maps(disk), before)
        again = Shelf("s2", disk, width, 8)
        same(self, (self.maps(disk), again.life), (before, 1))

    def test_what_was_kept_stays_until_it_is_dropped(self):
        shelf = begun(25, 2, 0)
        disk = shelf.disk
        known = {}
        for word, body in self.LETTERS * 3:
            answer = told(shelf, word, *body)
            if answer[0] == "kept":
                known.setdefault(body[0], body[1])
            if answer[0] == "gone":
                known.pop(body[1], None)
            if answer[0] == "fixed" and body[1] in known:
                known[body[1]] = body[2]
            disk.fall(())
            same(self, held(disk.blocks), tuple(sorted(known.items())))
            shelf = Shelf("s2", disk, 2, 0)
            same(self, kept(disk.blocks)[("life",)], (0,))


if __name__ == "__main__":
    unittest.main()
