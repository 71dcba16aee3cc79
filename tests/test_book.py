"""Promises [6], [20], [21]: what the disks of book servers tell."""

import itertools
import unittest

from keptfiles.disk import Disk
from keptfiles.keeper import Keeper
from keptfiles.synod import BookServer, book, chosen, fold_of, votes_of
from tests.helpers import disk_with, same

A0, A1, A2, B0, B1, B2 = (0, "ann"), (1, "ann"), (2, "ann"), (0, "bob"), (1, "bob"), (2, "bob")


def server_with(*letters, size=200, width=3):
    """A server that heard these letters (word, part of the body, ..)."""
    server = BookServer("b1", Disk(size), width)
    for word, *body in letters:
        server.hear(("ann", "b1", word, tuple(body)))
    return server


def blocks_with(*letters):
    return server_with(*letters).disk.blocks


def voted(slot, *votes):
    """Letters that lead to these votes in a slot."""
    return tuple(("set", slot, ballot, value) for ballot, value in votes)


class Told(unittest.TestCase):
    def test_empty_blocks(self):
        for blocks in ((None,) * 3, (None,) * 9, (None,) * 4000, Disk(5).blocks):
            same(self, fold_of(blocks), (0, None))
            same(self, votes_of(blocks), {})

    def test_a_server_that_only_began(self):
        same(self, fold_of(blocks_with()), (0, None))
        same(self, votes_of(blocks_with()), {})

    def test_promises_and_votes(self):
        blocks = blocks_with(("ask", 0, A0), ("set", 2, A0, "x"), ("ask", 2, B1), ("set", 5, B0, ()),
                             ("set", 5, A1, ("y", None)))
        same(self, fold_of(blocks), (0, None))
        votes = votes_of(blocks)
        same(self, [votes[slot] for slot in (0, 2, 5)],
             [(A0, ()), (B1, ((A0, "x"),)), (A1, ((B0, ()), (A1, ("y", None))))])
        self.assertEqual(sorted(votes), [0, 2, 5])

    def test_folds(self):
        blocks = blocks_with(("set", 0, A0, "x"), ("set", 1, A0, "y"), ("ask", 4, B1), ("fold", 1, ("d", 1)))
        same(self, fold_of(blocks), (1, ("d", 1)))
        self.assertEqual(votes_of(blocks), {1: (A0, ((A0, "y"),)), 4: (B1, ())})
        same(self, fold_of(blocks_with(("fold", 7, ()), ("fold", 3, 3))), (7, ()))
        same(self, fold_of(blocks_with(("fold", 7, 7), ("fold", 9, 0))), (9, 0))

    def test_what_is_left_below_the_fold_means_nothing(self):
        keeper = Keeper(Disk(60), 2)
        for slot in (3, 0, 7, 2, 4):
            keeper.put(("slot", slot), (A1, (A0, ("in", slot))))
        keeper.put(("fold",), (4, "data"))
        keeper.flush()
        same(self, fold_of(keeper.disk.blocks), (4, "data"))
        self.assertEqual(votes_of(keeper.disk.blocks), {4: (A1, ((A0, ("in", 4)),)), 7: (A1, ((A0, ("in", 7)),))})
        rows = (keeper.disk.blocks,)
        self.assertEqual(chosen(rows), {4: ("in", 4), 7: ("in", 7)})
        same(self, book(rows), (4, "data", (("in", 4),)))

    def test_what_waits_is_not_told(self):
        server = server_with(("set", 0, A0, "x"))
        server.keeper.put(("slot", 0), (B1, (A0, "x")))
        server.keeper.put(("fold",), (9, "data"))
        same(self, fold_of(server.disk.blocks), (0, None))
        self.assertEqual(votes_of(server.disk.blocks), {0: (A0, ((A0, "x"),))})
        server.disk.flush()
        same(self, fold_of(server.disk.blocks), (9, "data"))
        same(self, votes_of(server.disk.blocks), {})

    def test_by_names_and_from_a_disk(self):
        blocks = disk_with(blocks_with(("set", 0, A0, "x"))).blocks
        same(self, fold_of(blocks=blocks), (0, None))
        self.assertEqual(votes_of(blocks=blocks), {0: (A0, ((A0, "x"),))})
        self.assertEqual(chosen(rows=[blocks]), {0: "x"})
        same(self, book(rows=[blocks]), (0, None, ("x",)))

    def test_slots_of_many_digits_are_numbers(self):
        blocks = blocks_with(*[("set", slot, A0, slot) for slot in (10, 9, 100, 11, 8)], ("fold", 10, "ten"))
        self.assertEqual(votes_of(blocks), {slot: (A0, ((A0, slot),)) for slot in (10, 11, 100)})
        same(self, book((blocks,)), (10, "ten", (10, 11)))


class Chosen(unittest.TestCase):
    def check(self, rows, values, told=None):
        """In each order of the disks, as a list and as a tuple."""
        orders = itertools.permutations(rows) if len(rows) <= 5 else [rows, rows[::-1], rows[3:] + rows[:3]]
        for order in orders:
            self.assertEqual(chosen(order), values)
            self.assertEqual(chosen(list(order)), values)
            self.assertEqual({slot: repr(value) for slot, value in chosen(tuple(order)).items()},
                             {slot: repr(value) for slot, value in values.items()})
            if told is not None:
                same(self, book(order), told)
                same(self, book(list(order)), told)

    def test_just_more_than_half_and_one_fewer(self):
        for servers in (1, 3, 5, 7):
            half = servers // 2 + 1
            for many in range(servers + 1):
                rows = [blocks_with(*voted(0, (A0, "x"))) for _ in range(many)]
                rows += [blocks_with() for _ in range(servers - many)]
                found = {0: "x"} if many >= half else {}
                self.check(rows, found, (0, None, tuple(found.values())))

    def test_promises_are_no_votes(self):
        rows = [blocks_with(("ask", 0, A0))] * 3
        self.check(rows, {}, (0, None, ()))

    def test_votes_of_unlike_ballots(self):
        rows = [blocks_with(*voted(0, (ballot, "x"))) for ballot in (A0, A1, B1)]
        self.check(rows, {}, (0, None, ()))
        rows = [blocks_with(*voted(0, (A0, "x"), (A1, "x"))), blocks_with(*voted(0, (A1, "x"))), blocks_with()]
        self.check(rows, {0: "x"})
        # Three of five have "y" somewhere, but no ballot of it has a vote on three of them.
        rows = [blocks_with(*voted(0, votes)) for votes in ((A0, "x"), (B0, "x"), (A1, "y"), (B1, "y"), (A2, "y"))]
        self.check(rows, {}, (0, None, ()))

    def test_an_elder_chosen_ballot_with_later_votes_on_few_servers(self):
        rows = [blocks_with(*voted(0, (A0, "x"), (B1, "x"))), blocks_with(*voted(0, (A0, "x"))),
                blocks_with(*voted(0, (A0, "x"), (A2, "x"), (B2, "x"))), blocks_with(), blocks_with(("ask", 0, B2))]
        self.check(rows, {0: "x"}, (0, None, ("x",)))

    def test_a_later_ballot_is_chosen_above_lesser_votes_of_another_value(self):
        rows = [blocks_with(*voted(0, (A0, "x"))), blocks_with(*voted(0, (A0, "x"), (B1, "y"))),
                blocks_with(*voted(0, (B1, "y"))), blocks_with(*voted(0, (B1, "y"))), blocks_with()]
        self.check(rows, {0: "y"}, (0, None, ("y",)))

    def test_several_chosen_ballots_of_one_value(self):
        votes = voted(0, (A0, "x"), (B0, "x"), (A1, "x"))
        self.check([blocks_with(*votes), blocks_with(*votes), blocks_with(*votes[1:])], {0: "x"})

    def test_values_that_look_like_nothing(self):
        for value in (0, "", ()):
            rows = [blocks_with(*voted(0, (A0, value)), *voted(1, (A0, value)))] * 2 + [blocks_with()]
            self.check(rows, {0: value, 1: value}, (0, None, (value, value)))

    def test_a_gap(self):
        row = blocks_with(*voted(0, (A0, "a")), *voted(1, (A0, "b")), *voted(3, (A0, "d")))
        self.check([row, row, blocks_with()], {0: "a", 1: "b", 3: "d"}, (0, None, ("a", "b")))
        row = blocks_with(*voted(1, (A0, "b")))
        self.check([row, row, blocks_with()], {1: "b"}, (0, None, ()))

    def test_folds(self):
        votes = [*voted(0, (A0, "a")), *voted(1, (A0, "b")), *voted(2, (A0, "c")), *voted(3, (A0, "d"))]
        rows = [blocks_with(*votes), blocks_with(*votes, ("fold", 2, "two")), blocks_with(*votes)]
        self.check(rows, {0: "a", 1: "b", 2: "c", 3: "d"}, (2, "two", ("c", "d")))
        rows = [blocks_with(*votes), blocks_with(*votes, ("fold", 2, "two")), blocks_with(*votes, ("fold", 1, "one"))]
        self.check(rows, {1: "b", 2: "c", 3: "d"}, (2, "two", ("c", "d")))
        rows = [blocks_with(*votes, ("fold", 9, "nine")), blocks_with(*votes, ("fold", 4, "four")), blocks_with(*votes)]
        self.check(rows, {}, (9, "nine", ()))
        rows = [blocks_with(*votes, ("fold", 3, "three")), blocks_with(), blocks_with(*votes)]
        self.check(rows, {3: "d"}, (3, "three", ("d",)))

    def test_a_gap_at_the_fold(self):
        row = blocks_with(("fold", 2, "two"), *voted(3, (A0, "d")))
        self.check([row, row, blocks_with()], {3: "d"}, (2, "two", ()))

    def test_equal_folds(self):
        row = blocks_with(("fold", 2, ("two",)), *voted(2, (A0, "c")))
        self.check([row] * 5, {2: "c"}, (2, ("two",), ("c",)))

    def test_nothing(self):
        for servers in (1, 3, 5, 7):
            self.check([(None,) * 9] * servers, {}, (0, None, ()))

    def test_disks_are_not_changed(self):
        server = server_with(("set", 0, A0, "x"), ("fold", 0, "x"))
        before = server.disk.blocks
        rows = [server.disk.blocks]
        book(rows)
        chosen(rows)
        same(self, rows, [before])
        same(self, server.disk.blocks, before)


if __name__ == "__main__":
    unittest.main()
