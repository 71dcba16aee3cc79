"""Promises [17], [18], [19]: what a book server keeps and answers."""

import unittest

from keptfiles.disk import Disk
from keptfiles.errors import Fallen, Full
from keptfiles.keeper import Keeper, kept, log_of, record_of
from keptfiles.synod import BookServer, fold_of, votes_of
from tests.helpers import NO_INTEGERS, check_bad_number, check_error, copy_of, lots, same, steps_of

A0, A1, A2, B0, B1, B7 = (0, "ann"), (1, "ann"), (2, "ann"), (0, "bob"), (1, "bob"), (7, "bob")
FOLD = ("fold",)


def begun(size=60, width=2, name="b1"):
    return BookServer(name, Disk(size), width)


def told(server, word, *body, source="ann"):
    """The pair (word, body) of the answer to a letter, None without one; it goes to the source of the letter."""
    letters = server.hear((source, server.name, word, body))
    assert isinstance(letters, tuple) and len(letters) <= 1
    if not letters:
        return None
    assert letters[0][:2] == (server.name, source)
    return letters[0][2:]


def slot_key(slot):
    return ("slot", slot)


def look(server):
    """All of a disk that a letter may change."""
    return server.disk.blocks, server.disk.waiting, server.keeper.pairs()


class Checks(unittest.TestCase):
    def check_still(self, server, answer, word, *body, source="ann"):
        """The answer, without a step of the disk."""
        before = look(server)
        server.disk.set_fuse(0)
        same(self, told(server, word, *body, source=source), answer)
        server.disk.set_fuse(None)
        same(self, look(server), before)

    def check_put(self, server, answer, key, value, word, *body):
        """The answer behind a put of this value and a flush, and nothing else; heard again it changes nothing."""
        blocks = server.disk.blocks
        generation, half, run, _ = blocks[0]
        end = log_of(blocks)[1]
        record = record_of(key, value, generation, end, run, server.keeper.width)
        at = 1 + half * ((len(blocks) - 1) // 2) + end
        server.disk.set_fuse(len(record) + 1)
        same(self, told(server, word, *body), answer)
        server.disk.set_fuse(None)
        same(self, server.disk.blocks, blocks[:at] + record + blocks[at + len(record):])
        same(self, server.disk.waiting, ())
        same(self, server.keeper.get(key), value)
        self.check_still(server, answer, word, *body)


class Beginning(Checks):
    def test_attributes(self):
        disk = Disk(9)
        server = BookServer("b3", disk, 2)
        same(self, server.name, "b3")
        self.assertIs(server.disk, disk)
        self.assertIsInstance(server.keeper, Keeper)
        self.assertIs(server.keeper.disk, disk)
        same(self, server.keeper.width, 2)
        same(self, server.keeper.pairs(), ())
        same(self, disk.blocks, ((0, 0, 1, 1),) + (None,) * 8)

    def test_by_names(self):
        server = BookServer(width=1, disk=Disk(3), name="b1")
        same(self, server.hear(letter=("ann", "b1", "ask", (0, A0))), (("b1", "ann", "yes", (0, A0, None, None)),))

    def test_two_steps(self):
        for steps in (0, 1):
            disk = Disk(9)
            disk.set_fuse(steps)
            check_error(self, Fallen, {"steps": steps}, BookServer, "b1", disk, 1)
        disk = Disk(9)
        disk.set_fuse(2)
        BookServer("b1", disk, 1)

    def test_errors_of_the_keeper_go_on(self):
        check_bad_number(self, "size", 2, BookServer, "b1", Disk(2), 1)
        for width in (*NO_INTEGERS, 0):
            check_bad_number(self, "width", width, BookServer, "b1", Disk(9), width)

    def test_anew_on_the_same_disk(self):
        server = begun()
        told(server, "ask", 0, A0)
        told(server, "set", 0, A0, "x")
        told(server, "ask", 4, B1)
        told(server, "fold", 3, "data")
        told(server, "ask", 3, A1)
        pairs = server.keeper.pairs()
        same(self, pairs, ((slot_key(4), (B1,)), (FOLD, (3, "data")), (slot_key(3), (A1,))))
        server = BookServer("b1", server.disk, 2)
        same(self, server.disk.blocks[0], (0, 0, 2, 1))
        same(self, server.keeper.pairs(), pairs)
        self.check_still(server, ("past", (0, 3, "data")), "ask", 0, A2)
        self.check_still(server, ("no", (4, A1, B1)), "ask", 4, A1)
        self.check_put(server, ("have", (3, A1)), slot_key(3), (A1, (A1, "y")), "set", 3, A1, "y")


class Asks(Checks):
    def test_nothing_is_kept(self):
        server = begun()
        self.check_put(server, ("yes", (0, A0, None, None)), slot_key(0), (A0,), "ask", 0, A0)
        same(self, server.disk.blocks[:3], ((0, 0, 1, 1), (0, 0, 1, 0, slot_key(0), (A0,)), None))
        self.check_put(server, ("yes", (5, B7, None, None)), slot_key(5), (B7,), "ask", 5, B7)
        same(self, server.keeper.pairs(), ((slot_key(0), (A0,)), (slot_key(5), (B7,))))

    def test_promises(self):
        server = begun()
        told(server, "ask", 0, A1)
        self.check_still(server, ("yes", (0, A1, None, None)), "ask", 0, A1)
        for lesser in (A0, B0, (1, "aaa"), (0, "zoe")):
            self.check_still(server, ("no", (0, lesser, A1)), "ask", 0, lesser)
        for greater in (B1, A2, B7, (7, "bobb")):
            self.check_put(server, ("yes", (0, greater, None, None)), slot_key(0), (greater,), "ask", 0, greater)
        self.check_still(server, ("no", (0, B7, (7, "bobb"))), "ask", 0, B7)

    def test_votes_stay_and_the_last_is_told(self):
        server = begun()
        told(server, "set", 2, A0, "x")
        self.check_still(server, ("yes", (2, A0, A0, "x")), "ask", 2, A0)
        self.check_put(server, ("yes", (2, A1, A0, "x")), slot_key(2), (A1, (A0, "x")), "ask", 2, A1)
        told(server, "set", 2, B1, "y")
        self.check_put(server, ("yes", (2, A2, B1, "y")), slot_key(2), (A2, (A0, "x"), (B1, "y")), "ask", 2, A2)
        self.check_still(server, ("no", (2, B1, A2)), "ask", 2, B1)

    def test_values_that_look_like_nothing(self):
        for value in (0, "", ()):
            server = begun()
            told(server, "set", 0, A0, value)
            self.check_put(server, ("yes", (0, A1, A0, value)), slot_key(0), (A1, (A0, value)), "ask", 0, A1)

    def test_answers_go_to_the_source(self):
        server = begun(name="b2")
        for source in ("ann", "bob", "s1", "b2"):
            same(self, server.hear((source, "b2", "ask", (0, A0))), (("b2", source, "yes", (0, A0, None, None)),))
            same(self, server.hear((source, "b2", "set", (0, A0, 1))), (("b2", source, "have", (0, A0)),))
            same(self, server.hear((source, "b2", "fold", (0, 1))), (("b2", source, "folded", (0,)),))
            server = begun(name="b2")


class Sets(Checks):
    def test_nothing_is_kept(self):
        server = begun()
        self.check_put(server, ("have", (3, B1)), slot_key(3), (B1, (B1, "x")), "set", 3, B1, "x")
        same(self, server.disk.blocks[1], (0, 0, 1, 0, slot_key(3), (B1, (B1, "x"))))

    def test_a_lesser_an_equal_and_a_greater_promise(self):
        for promised in (A0, A1):
            server = begun()
            told(server, "ask", 0, promised)
            self.check_put(server, ("have", (0, A1)), slot_key(0), (A1, (A1, "x")), "set", 0, A1, "x")
        server = begun()
        told(server, "ask", 0, B1)
        self.check_still(server, ("no", (0, A1, B1)), "set", 0, A1, "x")
        same(self, server.keeper.get(slot_key(0)), (B1,))

    def test_votes_are_kept_in_order(self):
        server = begun(width=3)
        votes = ()
        for at, ballot in enumerate((A0, B0, A1, B7)):
            votes += ((ballot, ("value", at)),)
            self.check_put(server, ("have", (0, ballot)), slot_key(0), (ballot,) + votes,
                           "set", 0, ballot, ("value", at))
        for ballot in (A0, B0, A1, B1):
            self.check_still(server, ("no", (0, ballot, B7)), "set", 0, ballot, "other")
        told(server, "ask", 0, (8, "ann"))
        self.check_still(server, ("no", (0, B7, (8, "ann"))), "set", 0, B7, ("value", 3))
        same(self, server.keeper.get(slot_key(0)), ((8, "ann"),) + votes)

    def test_a_vote_behind_a_promise_above_the_last_vote(self):
        server = begun()
        told(server, "set", 0, A0, "x")
        told(server, "ask", 0, A2)
        self.check_put(server, ("have", (0, A2)), slot_key(0), (A2, (A0, "x"), (A2, "x")), "set", 0, A2, "x")

    def test_values_that_look_like_nothing(self):
        for value in (0, "", ()):
            self.check_put(begun(), ("have", (0, A0)), slot_key(0), (A0, (A0, value)), "set", 0, A0, value)

    def test_slots_are_apart(self):
        server = begun()
        for slot in (7, 0, 200, 1):
            told(server, "set", slot, A0, ("in", slot))
        told(server, "ask", 0, B7)
        for slot in (7, 200, 1):
            same(self, server.keeper.get(slot_key(slot)), (A0, (A0, ("in", slot))))


class Folds(Checks):
    def full_of_slots(self, slots=(4, 0, 2, 3, 6, 1)):
        server = begun()
        for slot in slots:
            told(server, "set", slot, A0, ("in", slot))
        return server

    def test_no_fold_at_first(self):
        server = begun()
        self.check_still(server, ("folded", (0,)), "fold", 0, "data")
        same(self, server.keeper.pairs(), ())

    def test_what_is_below_is_dropped_in_order(self):
        server = self.full_of_slots()
        blocks = server.disk.blocks
        same(self, told(server, "fold", 3, ("data", 1)), ("folded", (3,)))
        record = record_of(FOLD, (3, ("data", 1)), 0, 6, 1, 2)
        drops = tuple((0, 7 + slot, 1, 0, slot_key(slot), None) for slot in (0, 1, 2))
        same(self, server.disk.blocks, blocks[:7] + record + drops + blocks[11:])
        same(self, server.disk.waiting, ())
        same(self, tuple(key for key, _ in server.keeper.pairs()), (slot_key(4), slot_key(3), slot_key(6), FOLD))

    def test_steps(self):
        server = self.full_of_slots()
        server.disk.set_fuse(5)
        told(server, "fold", 3, "data")
        for steps in range(5):
            server = self.full_of_slots()
            blocks = server.disk.blocks
            server.disk.set_fuse(steps)
            check_error(self, Fallen, {"steps": steps}, server.hear, ("ann", "b1", "fold", (3, "data")))
            same(self, server.disk.blocks, blocks)
            writes = record_of(FOLD, (3, "data"), 0, 6, 1, 2) + tuple(
                (0, 7 + slot, 1, 0, slot_key(slot), None) for slot in (0, 1, 2))
            same(self, server.disk.waiting, tuple((7 + at, block) for at, block in enumerate(writes[:steps])))

    def test_above_equal_and_below(self):
        server = self.full_of_slots()
        told(server, "fold", 3, "three")
        for slot in (0, 2, 3):
            self.check_still(server, ("folded", (3,)), "fold", slot, "other")
        same(self, told(server, "fold", 4, "four"), ("folded", (4,)))
        same(self, server.keeper.pairs(), ((slot_key(4), (A0, (A0, ("in", 4)))), (slot_key(6), (A0, (A0, ("in", 6)))),
                                           (FOLD, (4, "four"))))
        same(self, told(server, "fold", 100, None), ("folded", (100,)))
        same(self, server.keeper.pairs(), ((FOLD, (100, None)),))

    def test_a_fold_with_nothing_below(self):
        server = begun()
        self.check_put(server, ("folded", (9,)), FOLD, (9, "data"), "fold", 9, "data")
        same(self, server.keeper.pairs(), ((FOLD, (9, "data")),))

    def test_slots_below_at_and_above(self):
        server = self.full_of_slots((2, 3, 4))
        told(server, "fold", 3, "data")
        for slot in (0, 1, 2):
            for ballot in (A0, B7):
                self.check_still(server, ("past", (slot, 3, "data")), "ask", slot, ballot)
                self.check_still(server, ("past", (slot, 3, "data")), "set", slot, ballot, "x")
        for slot in (3, 4):
            self.check_still(server, ("yes", (slot, A0, A0, ("in", slot))), "ask", slot, A0)
            self.check_put(server, ("have", (slot, A1)), slot_key(slot), (A1, (A0, ("in", slot)), (A1, "x")),
                           "set", slot, A1, "x")
        self.check_put(server, ("yes", (5, A0, None, None)), slot_key(5), (A0,), "ask", 5, A0)

    def test_what_a_fall_left_below_is_dropped_by_the_next_fold(self):
        server = self.full_of_slots()
        server.disk.set_fuse(3)
        self.assertRaises(Fallen, told, server, "fold", 4, "four")
        server.disk.fall((0, 2))
        # The drop of slot 1 came down to the disk, but that of slot 0, ahead of it, did not: nothing behind is read.
        server = BookServer("b1", server.disk, 2)
        same(self, [key for key, _ in server.keeper.pairs()], [slot_key(slot) for slot in (4, 0, 2, 3, 6, 1)] + [FOLD])
        same(self, fold_of(server.disk.blocks), (4, "four"))
        same(self, sorted(votes_of(server.disk.blocks)), [4, 6])
        self.check_still(server, ("past", (1, 4, "four")), "set", 1, B7, "x")
        self.check_still(server, ("folded", (4,)), "fold", 4, "four")
        same(self, told(server, "fold", 5, "five"), ("folded", (5,)))
        same(self, [key for key, _ in server.keeper.pairs()], [slot_key(6), FOLD])


class OtherWords(Checks):
    def test_nothing_is_answered(self):
        server = begun()
        told(server, "set", 0, A0, "x")
        for word in ("", "Ask", "yes", "have", "no", "past", "folded", "put", "get", "ask ", "asks"):
            for body in ((), (0,), (0, A1), (0, A1, "x"), (9, "data")):
                self.check_still(server, None, word, *body)
            same(self, server.hear(("ann", "b1", word, ())), ())


class FullDisks(Checks):
    def full_server(self):
        """A server with a weight of four on halves of four blocks, one cell on each."""
        server = begun(9, 1)
        told(server, "ask", 0, A0)
        told(server, "set", 0, A0, "x")
        told(server, "ask", 1, A0)
        told(server, "ask", 2, A0)
        same(self, server.keeper.weight(), 4)
        return server

    def test_nothing_happens(self):
        server = self.full_server()
        self.check_still(server, None, "ask", 3, A0)
        self.check_still(server, None, "set", 3, A0, "x")
        self.check_still(server, None, "set", 0, A1, "x")
        self.check_still(server, None, "set", 1, A0, "x")
        self.check_still(server, None, "fold", 3, "data")

    def test_what_needs_no_room_is_answered(self):
        server = self.full_server()
        self.check_still(server, ("yes", (1, A0, None, None)), "ask", 1, A0)
        self.check_still(server, ("have", (0, A0)), "set", 0, A0, "x")
        self.check_still(server, ("folded", (0,)), "fold", 0, "data")
        same(self, told(server, "ask", 0, B7), ("yes", (0, B7, A0, "x")))
        same(self, server.keeper.get(slot_key(0)), (B7, (A0, "x")))
        self.check_still(server, ("no", (0, A0, B7)), "ask", 0, A0)
        self.check_still(server, ("no", (0, A0, B7)), "set", 0, A0, "x")

    def test_a_full_disk_with_a_fold(self):
        server = begun(9, 1)
        told(server, "fold", 2, "two")
        told(server, "set", 2, A0, "x")
        same(self, server.keeper.weight(), 4)
        self.check_still(server, None, "ask", 3, A0)
        self.check_still(server, ("past", (1, 2, "two")), "ask", 1, A0)
        self.check_still(server, ("past", (1, 2, "two")), "set", 1, A0, "x")
        self.check_still(server, ("folded", (2,)), "fold", 2, "x")
        same(self, told(server, "fold", 3, "three"), ("folded", (3,)))
        same(self, server.keeper.pairs(), ((FOLD, (3, "three")),))

    def test_full_is_raised_by_the_keeper_itself(self):
        server = self.full_server()
        check_error(self, Full, {"size": 9}, server.keeper.put, slot_key(3), (A0,))


class Cuts(Checks):
    """A letter that is cut at each step, with each lot."""

    def scenes(self):
        """Triples of a server, a letter, and the rows (key, value) of the deeds of its hearing."""
        server = begun(24, 2)
        yield server, ("ask", (0, A0)), ((slot_key(0), (A0,)),)
        told(server, "ask", 0, A0)
        yield server, ("set", (0, A0, "x")), ((slot_key(0), (A0, (A0, "x"))),)
        told(server, "set", 0, A0, "x")
        yield server, ("ask", (0, A2)), ((slot_key(0), (A2, (A0, "x"))),)
        yield server, ("set", (0, A2, "x")), ((slot_key(0), (A2, (A0, "x"), (A2, "x"))),)
        for slot in (1, 2, 3):
            told(server, "set", slot, A0, ("in", slot))
        yield server, ("fold", (3, "three")), (
            (FOLD, (3, "three")), (slot_key(0), None), (slot_key(1), None), (slot_key(2), None))
        told(server, "fold", 3, "three")
        yield server, ("ask", (3, B1)), ((slot_key(3), (B1, (A0, ("in", 3)))),)
        yield server, ("fold", (9, "nine")), ((FOLD, (9, "nine")), (slot_key(3), None))

    def behind(self, pairs, deeds):
        pairs = dict(pairs)
        for key, value in deeds:
            pairs[key] = value
            if value is None:
                del pairs[key]
        return pairs

    def check_cut(self, disk, letter, deeds, steps):
        """A server that falls behind so many steps. Whether it did."""
        server = BookServer("b1", disk, 2)
        before = server.keeper.pairs()
        whole = self.behind(before, deeds)
        server.disk.set_fuse(steps)
        try:
            server.hear(("ann", "b1") + letter)
        except Fallen as error:
            same(self, error.steps, steps)
        else:
            same(self, server.disk.waiting, ())
            same(self, dict(server.keeper.pairs()), whole)
            return False
        beginnings = [self.behind(before, deeds[:many]) for many in range(len(deeds) + 1)]
        for lot in lots(len(server.disk.waiting)):
            other = copy_of(server.disk)
            other.fall(lot)
            self.assertIn(kept(other.blocks), beginnings)
            self.check_told(other.blocks, kept(other.blocks))
            again = BookServer("b1", other, 2)
            answer = told(again, *letter[:1], *letter[1])
            self.assertIn(answer[0], ("yes", "have", "folded"))
            left = {key: value for key, value in again.keeper.pairs() if key in whole}
            self.assertEqual(left, whole)
        return True

    def check_told(self, blocks, pairs):
        fold = pairs.get(FOLD, (0, None))
        same(self, fold_of(blocks), fold)
        self.assertEqual(votes_of(blocks), {
            key[1]: (value[0], value[1:]) for key, value in pairs.items() if key != FOLD and key[1] >= fold[0]})

    def test_each_step_and_lot(self):
        for server, letter, deeds in self.scenes():
            steps = 0
            while self.check_cut(copy_of(server.disk), letter, deeds, steps):
                steps += 1
            self.assertGreaterEqual(steps, 2)

    def test_each_step_of_a_move(self):
        server = begun(11, 2)
        for number in range(4):
            told(server, "ask", 0, (number, "ann"))
        told(server, "ask", 1, A0)
        # All five blocks of the half are written: a move of two records, and the flush of the letter behind it.
        for letter, value in ((("set", (0, B7, "x")), (B7, (B7, "x"))), (("ask", (0, B7)), (B7,))):
            steps = 0
            while self.check_cut(copy_of(server.disk), letter, ((slot_key(0), value),), steps):
                steps += 1
            same(self, steps, 2 + 3 + 1)

    def test_steps_are_those_of_the_puts_and_drops_and_of_one_flush(self):
        for server, letter, deeds in self.scenes():
            blocks = sum(1 if value is None else -(-len(value) // 2) for _, value in deeds)
            if log_of(server.disk.blocks)[1] + blocks <= 11:
                needed = steps_of(server.disk, lambda disk: BookServer("b1", disk, 2).hear(("ann", "b1") + letter))
                same(self, needed, 2 + blocks + 1)


if __name__ == "__main__":
    unittest.main()
