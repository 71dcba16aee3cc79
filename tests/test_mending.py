"""Promises [59], [60], [63]: tellings, mending, and what is left to do on shelves."""

import unittest

from keptfiles.code import pieces_of
from keptfiles.errors import NoName
from keptfiles.machine import State, state_behind, step
from keptfiles.mending import dead, missing, strange, undone
from tests.bench import SETTINGS, SHELVES, Bench, BenchCase, to_shelves
from tests.helpers import check_error, same

F = ("f",)
LETTERS = ((7, 8, 9), (1,), ())
PIECES = tuple(pieces_of(letters, SETTINGS) for letters in LETTERS)
MARKS = tuple((shelf, 0) for shelf in SHELVES)
WRITES = (("a", 0), ("a", 1), ("a", 2))
W0, W1, W2 = WRITES


def commit(number, at=None):
    return "commit", F, number if at is None else at, ("a", number), len(LETTERS[number % 3]), MARKS


class Shelves(BenchCase):
    """What the tests of mending, scrubbing and sweeping share."""

    def with_rows(self, many):
        bench = Bench()
        bench.say("file", F)
        for number in range(many):
            same(self, bench.say(*commit(number)), "done")
        return bench

    def find(self, bench, number, turn, shelves=("s1", "s3", "s6")):
        """These shelves tell their pieces of the write with this number; only behind the last one something is sent."""
        sent = ()
        for shelf in shelves:
            same(self, sent, ())
            piece = PIECES[number][SHELVES.index(shelf)]
            sent = bench.hear(shelf, "piece", turn, ("a", number), piece, 0)
        return sent

    def check_telling(self, word):
        """The telling of a deed that was called as the first one of a hand."""
        bench = self.with_rows(1)
        letters = to_shelves("tell", 0, shelves=("s2",))
        same(self, bench.hand.call((word, "s2")), letters)
        same(self, bench.hand.nudge(), letters)
        self.check_nothing(bench, ("s2", "holds", 1, 0, ()), ("s1", "holds", 0, 0, ()), ("s2", "gone", 0, W0),
                           ("s2", "kept", W0, 0), ("s2", "piece", 0, W0, (1, 2), 0), ("s2", "fixed", 0, W0, 1),
                           ("s2", "full", W0, 0), ("b1", "have", 0, (0, "ann")), ("b1", "holds", 0, 0, ()))
        same(self, bench.hand.nudge(), letters)
        self.check_waits(bench)
        same(self, bench.hand.walker.told, None)
        letters = bench.hear("s2", "holds", 0, 0, ())
        self.check_asks(letters, 0)
        same(self, bench.hand.nudge(), letters)
        self.check_nothing(bench, ("s2", "holds", 0, 0, ()))
        return bench, letters


class Mending(Shelves):
    def mending(self, many=3, writes=(), life=0, lives=()):
        """A mending of s2 behind its telling; what was sent behind "life"."""
        bench = self.with_rows(many)
        for shelf_life in lives:
            bench.say("life", "s2", shelf_life)
        bench.hand.call(("mend", "s2"))
        return bench, bench.book(bench.hear("s2", "holds", 0, life, writes))

    def put(self, number, shelf="s2"):
        piece = PIECES[number][SHELVES.index(shelf)]
        return (("ann", shelf, "put", (("a", number), piece)),)

    def test_the_telling(self):
        bench, letters = self.check_telling("mend")
        bench.book(letters)
        same(self, bench.said(), [("life", ("s2", 0))])

    def test_a_whole_mending(self):
        bench, letters = self.mending(life=4)
        same(self, bench.said(), [("life", ("s2", 4))])
        turn = 1
        for number in range(3):
            same(self, letters, to_shelves("get", turn, ("a", number)))
            same(self, self.find(bench, number, turn), self.put(number))
            same(self, bench.hand.nudge(), self.put(number))
            letters = bench.book(bench.hear("s2", "kept", ("a", number), 4))
            turn += 1
        same(self, letters, ())
        same(self, bench.said(), [("life", ("s2", 4)), ("whole", ("s2", 4))])
        same(self, bench.hand.walker.state.lives[1], (4, True))
        self.check_over(bench, "whole", 5)
        same(self, bench.hand.nudge(), ())

    def test_no_missing_writes(self):
        for life, answer in ((0, "known"), (1, "new")):
            for many, writes in ((0, ()), (3, WRITES), (1, (W0, W1, ("bob", 5)))):
                bench, letters = self.mending(many, writes, life)
                same(self, letters, ())
                same(self, bench.said(), [("life", ("s2", life)), ("whole", ("s2", life))])
                same(self, bench.hand.walker.state.last[-1][2], "whole")
                self.check_over(bench, "whole", many + 2)

    def test_only_what_is_missing(self):
        bench, letters = self.mending(writes=(W0, W2))
        same(self, letters, to_shelves("get", 1, W1))
        self.find(bench, 1, 1)
        bench.book(bench.hear("s2", "kept", W1, 0))
        self.check_over(bench, "whole", 5)

    def test_the_shelf_itself_may_hold_a_piece_by_now(self):
        bench, _ = self.mending(1)
        same(self, self.find(bench, 0, 1, ("s2", "s1", "s4")), self.put(0))

    def test_an_old_life(self):
        """The State has a greater life than the one that was told: 1 again."""
        bench, letters = self.mending(life=1, lives=(2,))
        same(self, letters, to_shelves("tell", 1, shelves=("s2",)))
        same(self, bench.said(), [("life", ("s2", 1))])
        self.check_nothing(bench, ("s2", "holds", 0, 2, ()))
        letters = bench.book(bench.hear("s2", "holds", 1, 2, WRITES[:2]))
        same(self, letters, to_shelves("get", 2, W2))
        same(self, bench.said()[1:], [("life", ("s2", 2))])

    def test_kept(self):
        bench, _ = self.mending(2, life=3)
        self.find(bench, 0, 1)
        self.check_nothing(bench, ("s2", "kept", W0, 2), ("s2", "kept", W0, 0), ("s2", "kept", W1, 3),
                           ("s1", "kept", W0, 3), ("s2", "full", W0, 3), ("s2", "piece", 1, W0, (1, 2), 3),
                           ("s2", "holds", 0, 3, ()), ("s2", "fixed", 0, W0, 1), ("s2", "gone", 0, W0),
                           ("b1", "kept", W0, 3))
        same(self, bench.hand.nudge(), self.put(0))
        same(self, bench.hear("s2", "kept", W0, 3), to_shelves("get", 2, W1))
        self.check_nothing(bench, ("s2", "kept", W0, 3), ("s2", "kept", W0, 4), ("s2", "kept", W1, 3))
        self.find(bench, 1, 2)
        # A greater life: the shelf was wiped meanwhile, and all begins anew.
        same(self, bench.hear("s2", "kept", W1, 5), to_shelves("tell", 3, shelves=("s2",)))
        letters = bench.book(bench.hear("s2", "holds", 3, 5, (W1,)))
        same(self, letters, to_shelves("get", 4, W0))
        same(self, bench.said(), [("life", ("s2", 3)), ("life", ("s2", 5))])

    def test_a_write_that_no_longer_stands(self):
        """W1 and W2 are cut away while W0 is gathered: only a later command tells the hand."""
        bench, _ = self.mending()
        bench.say("cut", F, 1)
        self.find(bench, 0, 1)
        same(self, bench.hear("s2", "kept", W0, 0), to_shelves("get", 2, W1))
        letters = bench.hand.nudge()
        self.check_asks(letters, 5)
        same(self, bench.book(letters), ())
        same(self, bench.said(), [("life", ("s2", 0)), ("idle", ()), ("whole", ("s2", 0))])
        self.check_over(bench, "whole", 7)

    def test_nudge_in_a_gathering(self):
        bench, _ = self.mending(2)
        same(self, self.find(bench, 0, 1, ("s1", "s3")), ())
        letters = bench.hand.nudge()
        self.check_asks(letters, 4)
        same(self, bench.hand.nudge(), letters)
        self.check_nothing(bench, ("s6", "piece", 1, W0, PIECES[0][5], 0))
        same(self, bench.book(letters), to_shelves("get", 2, W0))
        self.check_nothing(bench, ("s6", "piece", 1, W0, PIECES[0][5], 0))
        same(self, self.find(bench, 0, 2), self.put(0))

    def test_writes_that_came_meanwhile_are_not_among_the_missing_ones(self):
        bench, _ = self.mending(1)
        bench.say(*commit(1))
        same(self, bench.book(bench.hand.nudge()), to_shelves("get", 2, W0))
        self.find(bench, 0, 2)
        bench.book(bench.hear("s2", "kept", W0, 0))
        same(self, bench.said()[-1], ("whole", ("s2", 0)))
        self.check_over(bench, "whole", 5)

    def test_another_life_behind_idle(self):
        bench, _ = self.mending(2, life=1)
        bench.say("life", "s2", 2)
        same(self, bench.book(bench.hand.nudge()), to_shelves("tell", 2, shelves=("s2",)))
        same(self, bench.said(), [("life", ("s2", 1)), ("idle", ())])

    def test_other(self):
        bench, _ = self.mending(1, life=1)
        self.find(bench, 0, 1)
        bench.say("life", "s2", 2)
        letters = bench.book(bench.hear("s2", "kept", W0, 1))
        same(self, letters, to_shelves("tell", 2, shelves=("s2",)))
        same(self, bench.said(), [("life", ("s2", 1)), ("whole", ("s2", 1))])
        self.check_waits(bench)
        letters = bench.book(bench.hear("s2", "holds", 2, 2, (W0,)))
        same(self, letters, ())
        same(self, bench.said()[2:], [("life", ("s2", 2)), ("whole", ("s2", 2))])
        self.check_over(bench, "whole", 6)

    def test_a_wrong_piece(self):
        bench, _ = self.mending(1)
        same(self, bench.hear("s5", "piece", 1, W0, (0, 0), 0), ())
        same(self, self.find(bench, 0, 1, ("s1", "s3", "s6")), self.put(0))

    def test_each_shelf_gets_its_own_piece(self):
        for shelf in SHELVES:
            bench = self.with_rows(1)
            bench.hand.call(("mend", shelf))
            bench.book(bench.hear(shelf, "holds", 0, 0, ()))
            same(self, self.find(bench, 0, 1), self.put(0, shelf))


def rows_with(*writes):
    return tuple((write, 1) for write in writes)


class Lists(unittest.TestCase):
    STATE = State(5, (((), None), (("a",), rows_with(("cy", 1), ("ann", 2))), (("b",), None),
                      (("b", "c"), rows_with(("bob", 0))), (("d",), ())),
                  (("ann", 2), ("ann", 3), ("bob", 0), ("cy", 1), ("zoe", 9)), (("ann", 7), ("bob", 4)),
                  ((0, True), (2, True), (3, False), (0, True), (0, True), (1, False)), 9, ())
    HELD = (("ann", 2), ("ann", 3), ("ann", 7), ("ann", 8), ("bob", 0), ("bob", 4), ("dan", 0), ("zoe", 9), ("zoe", 10))

    def test_missing(self):
        same(self, missing(self.STATE, ()), rows_with(("ann", 2), ("bob", 0), ("cy", 1)))
        same(self, missing(self.STATE, self.HELD), rows_with(("cy", 1)))
        same(self, missing(self.STATE, (("ann", 2), ("bob", 0), ("cy", 1))), ())
        same(self, missing(state_behind(SETTINGS, []), self.HELD), ())

    def test_dead(self):
        same(self, dead(self.STATE, ()), ())
        same(self, dead(self.STATE, self.HELD), (("ann", 3), ("ann", 7), ("bob", 4), ("zoe", 9)))
        same(self, dead(self.STATE, (("ann", 2), ("bob", 0), ("dan", 0))), ())

    def test_strange(self):
        same(self, strange(self.STATE, ()), ())
        same(self, strange(self.STATE, self.HELD), (("ann", 8), ("dan", 0), ("zoe", 10)))
        same(self, strange(state_behind(SETTINGS, []), self.HELD), self.HELD)

    def test_undone(self):
        all_of = (("ann", 2), ("bob", 0), ("cy", 1))
        same(self, undone(self.STATE, ()), 0)
        same(self, undone(self.STATE, (("s1", 0, all_of),)), 0)
        same(self, undone(self.STATE, (("s1", 1, all_of),)), 1)
        same(self, undone(self.STATE, (("s3", 3, all_of),)), 1)
        same(self, undone(self.STATE, (("s3", 4, all_of),)), 1)
        same(self, undone(self.STATE, (("s2", 2, ()),)), 3)
        same(self, undone(self.STATE, (("s2", 2, self.HELD),)), 1 + 4 + 3)
        same(self, undone(self.STATE, (("s2", 2, self.HELD), ("s6", 1, all_of), ("s1", 0, ()))), 8 + 1 + 3)

    def test_no_shelf(self):
        check_error(self, NoName, {"name": "s7"}, undone, self.STATE, (("s7", 0, ()),))

    def test_what_was_dead_stays_dead(self):
        commands = [("file", (F,))] + [commit(number)[:1] + (commit(number)[1:],) for number in range(3)]
        commands += [("cut", (F, 1)), ("bar", (("zoe", 1),)), ("life", ("s1", 2)), ("bar", (W0,)), ("file", (("g",),)),
                     ("bar", (("bob", 0),)), ("move", (F, ("h",))), ("drop", (("h",),))]
        state = state_behind(SETTINGS, [])
        held = (W0, W1, W2, ("bob", 0), ("zoe", 1))
        gone = ()
        for count, (word, body) in enumerate(commands):
            state, _ = step(state, (("a", count), word, body))
            same(self, tuple(write for write in dead(state, held) if write in gone), gone)
            gone = dead(state, held)
            sorts = missing(state, ()), gone, strange(state, held)
            same(self, sorted([row[0] for row in sorts[0]] + list(sorts[1] + sorts[2])), sorted(held))
        same(self, gone, (W0, W1, W2, ("bob", 0), ("zoe", 1)))


if __name__ == "__main__":
    unittest.main()
