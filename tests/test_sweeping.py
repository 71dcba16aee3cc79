"""Promises [59], [61], [62]: scrubbing and sweeping."""

import unittest

from tests.bench import SHELVES, Bench, to_shelves
from tests.helpers import same
from tests.test_mending import F, PIECES, W0, W1, W2, WRITES, Shelves, commit

B0, Z0, Z1 = ("bob", 0), ("zoe", 0), ("zoe", 1)


class Scrubbing(Shelves):
    def scrubbing(self, many=3, writes=WRITES):
        """A scrubbing of s4 behind its telling; what was sent behind "idle"."""
        bench = self.with_rows(many)
        bench.hand.call(("scrub", "s4"))
        letters = bench.hear("s4", "holds", 0, 0, writes)
        self.check_asks(letters, 0)
        return bench, bench.book(letters)

    def fix(self, number, turn=0, shelf="s4"):
        piece = PIECES[number][SHELVES.index(shelf)]
        return (("ann", shelf, "fix", (turn, ("a", number), piece)),)

    def test_the_telling(self):
        bench, letters = self.check_telling("scrub")
        bench.book(letters)
        same(self, bench.said(), [("idle", ())])
        self.check_over(bench, (), 2)

    def test_a_whole_scrubbing(self):
        bench, letters = self.scrubbing()
        same(self, bench.said(), [("idle", ())])
        for number, was in enumerate((1, 0, 1)):
            same(self, letters, to_shelves("get", number + 1, ("a", number)))
            same(self, self.find(bench, number, number + 1), self.fix(number))
            same(self, bench.hand.nudge(), self.fix(number))
            self.check_waits(bench)
            letters = bench.hear("s4", "fixed", 0, ("a", number), was)
        same(self, letters, ())
        same(self, bench.said(), [("idle", ())])
        self.check_over(bench, (W0, W2), 4)

    def test_no_writes(self):
        for many in (0, 2):
            bench, letters = self.scrubbing(many, ())
            same(self, letters, ())
            self.check_over(bench, (), many + 1)

    def test_what_does_not_stand_is_left_out(self):
        bench = self.with_rows(3)
        bench.say(*commit(3, 0))
        bench.say("bar", Z0)
        bench.hand.call(("scrub", "s4"))
        letters = bench.book(bench.hear("s4", "holds", 0, 0, (W0, W1, ("a", 3), B0, Z0)))
        same(self, letters, to_shelves("get", 1, W1))
        self.find(bench, 1, 1)
        letters = bench.hear("s4", "fixed", 0, W1, 0)
        same(self, letters, to_shelves("get", 2, ("a", 3)))
        for shelf in ("s1", "s2", "s3"):
            letters = bench.hear(shelf, "piece", 2, ("a", 3), PIECES[0][SHELVES.index(shelf)], 0)
        same(self, letters, (("ann", "s4", "fix", (0, ("a", 3), PIECES[0][3])),))
        same(self, bench.hear("s4", "fixed", 0, ("a", 3), 1), ())
        self.check_over(bench, (("a", 3),), 6)

    def test_what_ends_a_fix(self):
        bench, _ = self.scrubbing(2, (W0, W1))
        self.find(bench, 0, 1)
        self.check_nothing(
            bench, ("s4", "fixed", 1, W0, 1), ("s4", "fixed", 0, W1, 1), ("s3", "fixed", 0, W0, 1),
            ("s4", "gone", 0, W0), ("s4", "kept", W0, 0), ("s4", "piece", 1, W0, PIECES[0][3], 0),
            ("s4", "holds", 0, 0, ()), ("s4", "full", W0, 0), ("b1", "fixed", 0, W0, 1), ("b1", "folded", 0))
        same(self, bench.hand.nudge(), self.fix(0))
        same(self, bench.hear("s4", "fixed", 0, W0, 1), to_shelves("get", 2, W1))
        self.check_nothing(bench, ("s4", "fixed", 0, W0, 1), ("s4", "fixed", 0, W1, 1))

    def test_nudge_in_a_gathering(self):
        bench, _ = self.scrubbing(2, (W0, W1))
        same(self, self.find(bench, 0, 1, ("s1", "s2")), ())
        letters = bench.hand.nudge()
        self.check_asks(letters, 4)
        same(self, bench.hand.nudge(), letters)
        self.check_nothing(bench, ("s3", "piece", 1, W0, PIECES[0][2], 0), ("s4", "fixed", 0, W0, 1))
        same(self, bench.book(letters), to_shelves("get", 2, W0))
        self.check_nothing(bench, ("s3", "piece", 1, W0, PIECES[0][2], 0))
        # The turn of the "fix" is still that of the telling.
        same(self, self.find(bench, 0, 2), self.fix(0))
        bench.say("cut", F, 1)
        same(self, bench.hear("s4", "fixed", 0, W0, 1), to_shelves("get", 3, W1))
        same(self, bench.book(bench.hand.nudge()), ())
        same(self, bench.said(), [("idle", ())] * 3)
        self.check_over(bench, (W0,), 6)

    def test_a_wrong_piece_of_the_shelf_itself(self):
        bench, _ = self.scrubbing(1, (W0,))
        same(self, bench.hear("s4", "piece", 1, W0, (5, 5), 0), ())
        same(self, self.find(bench, 0, 1), self.fix(0))

    def test_turns_of_a_later_deed(self):
        bench, _ = self.scrubbing(1, (W0,))
        self.find(bench, 0, 1)
        bench.hear("s4", "fixed", 0, W0, 0)
        self.check_over(bench, (), 2)
        same(self, bench.hand.call(("scrub", "s5")), to_shelves("tell", 2, shelves=("s5",)))
        same(self, bench.book(bench.hear("s5", "holds", 2, 0, (W0,))), to_shelves("get", 3, W0))
        same(self, self.find(bench, 0, 3), self.fix(0, 2, "s5"))


class Sweeping(Shelves):
    def sweeping(self, bench, writes):
        """A sweeping of s4 behind its telling; what was sent behind "idle"."""
        bench.hand.call(("sweep", "s4"))
        return bench.book(bench.hear("s4", "holds", 0, 0, writes))

    def drop(self, write, turn=0):
        return to_shelves("drop", turn, write, shelves=("s4",))

    def test_the_telling(self):
        bench, letters = self.check_telling("sweep")
        bench.book(letters)
        same(self, bench.said(), [("idle", ())])
        self.check_over(bench, (), 2)

    def test_no_writes(self):
        bench = Bench()
        same(self, self.sweeping(bench, ()), ())
        self.check_over(bench, (), 0)

    def test_writes_that_stand_are_left_out(self):
        bench = self.with_rows(3)
        same(self, self.sweeping(bench, WRITES), ())
        same(self, bench.said(), [("idle", ())])
        self.check_over(bench, (), 4)

    def test_a_whole_sweeping(self):
        """One that stands, one that is used and gone, one that is barred, one that nobody knows."""
        bench = self.with_rows(3)
        bench.say("cut", F, 1)
        bench.say("bar", B0)
        same(self, self.sweeping(bench, (W0, W2, B0, Z0)), self.drop(W2))
        same(self, bench.hand.nudge(), self.drop(W2))
        self.check_nothing(
            bench, ("s4", "gone", 1, W2), ("s4", "gone", 0, W1), ("s4", "gone", 0, B0), ("s5", "gone", 0, W2),
            ("s4", "fixed", 0, W2, 1), ("s4", "kept", W2, 0), ("s4", "holds", 0, 0, ()), ("b1", "gone", 0, W2),
            ("b1", "folded", 9))
        same(self, bench.hand.nudge(), self.drop(W2))
        same(self, bench.hear("s4", "gone", 0, W2), self.drop(B0))
        self.check_nothing(bench, ("s4", "gone", 0, W2))
        letters = bench.hear("s4", "gone", 0, B0)
        self.check_asks(letters, 7)
        same(self, bench.hand.nudge(), letters)
        self.check_nothing(bench, ("s4", "gone", 0, Z0))
        same(self, bench.book(letters), self.drop(Z0))
        same(self, bench.said(), [("idle", ()), ("bar", (Z0,))])
        same(self, bench.hear("s4", "gone", 0, Z0), ())
        self.check_over(bench, (W2, B0, Z0), 7)

    def test_strange_ones_that_others_bar_or_use_meanwhile(self):
        bench = self.with_rows(1)
        letters = self.sweeping(bench, (W1, W2, Z0))
        # Behind the first "bar" W1 is looked at again; W2 is committed, and Z0 barred by others meanwhile.
        same(self, letters, self.drop(W1))
        same(self, bench.say(*commit(2, 1)), "done")
        same(self, bench.say("bar", Z0), "barred")
        same(self, bench.book(bench.hear("s4", "gone", 0, W1)), self.drop(Z0))
        same(self, bench.said(), [("idle", ()), ("bar", (W1,)), ("bar", (W2,))])
        bench.hear("s4", "gone", 0, Z0)
        self.check_over(bench, (W1, Z0), 6)

    def test_a_strange_one_that_is_used_and_gone_meanwhile(self):
        bench = self.with_rows(0)
        bench.hand.call(("sweep", "s4"))
        bench.book(bench.hear("s4", "holds", 0, 0, ()))
        bench.hand.call(("sweep", "s4"))
        letters = bench.hear("s4", "holds", 1, 0, (W0,))
        same(self, bench.say(*commit(0)), "done")
        same(self, bench.say(*commit(1, 0)), "done")
        same(self, bench.book(letters), self.drop(W0, 1))
        same(self, bench.said(), [("idle", ()), ("idle", ())])
        same(self, bench.hear("s4", "gone", 1, W0), ())
        self.check_over(bench, (W0,), 4)

    def test_many_strange_ones(self):
        bench = self.with_rows(0)
        letters = self.sweeping(bench, (B0, Z0, Z1))
        for write in (B0, Z0, Z1):
            same(self, letters, self.drop(write))
            letters = bench.book(bench.hear("s4", "gone", 0, write))
        same(self, bench.said(), [("idle", ()), ("bar", (B0,)), ("bar", (Z0,)), ("bar", (Z1,))])
        self.check_over(bench, (B0, Z0, Z1), 4)


if __name__ == "__main__":
    unittest.main()
