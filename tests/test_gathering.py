"""Promise [55]: reads, and the gatherings of which they consist."""

import unittest

from keptfiles.code import pieces_of
from keptfiles.errors import Settings
from tests.bench import SETTINGS, SHELVES, Bench, BenchCase, to_shelves
from tests.helpers import same

F = ("f",)
LETTERS = (7, 8, 9, 12, 0)
PIECES = pieces_of(LETTERS, SETTINGS)
MARKS = tuple((shelf, 0) for shelf in SHELVES)
W0, W1 = ("a", 0), ("a", 1)


class Reads(BenchCase):
    def with_rows(self, *counts):
        """A bench with a file whose rows are these writes of the other hand, W0, W1, .., with so many letters."""
        bench = Bench()
        bench.say("file", F)
        for number, count in enumerate(counts):
            same(self, bench.say("commit", F, number, ("a", number), count, MARKS), "done")
        return bench

    def looked(self, count=5):
        """A read whose "look" was answered, with turn 0."""
        bench = self.with_rows(count)
        letters = bench.hand.call(("read", F, 0))
        self.check_asks(letters, 0)
        same(self, bench.book(letters), to_shelves("get", 0, W0))
        same(self, bench.said(), [("look", (F, 0))])
        self.check_waits(bench)
        return bench

    def find(self, bench, shelf, piece=None, turn=0, write=W0, life=0):
        """The shelf answers, with its right piece where no other one is told."""
        piece = PIECES[SHELVES.index(shelf)] if piece is None else piece
        return bench.hear(shelf, "piece", turn, write, piece, life)

    def test_answers_that_are_strings(self):
        for path, number, answer in ((("g",), 0, "none"), ((), 0, "none"), (F, 1, "gap"), (F, 2, "gap")):
            bench = self.with_rows(5)
            same(self, bench.book(bench.hand.call(("read", path, number))), ())
            self.check_over(bench, answer, 2)
            same(self, bench.said(), [("look", (path, number))])

    def test_as_soon_as_the_pieces_tell_the_letters(self):
        for shelves in (("s1", "s2", "s3"), ("s6", "s4", "s2"), ("s3", "s1", "s5")):
            bench = self.looked()
            for shelf in shelves[:2]:
                same(self, self.find(bench, shelf), ())
                self.check_waits(bench)
            same(self, self.find(bench, shelves[2]), ())
            self.check_over(bench, LETTERS, 2)
            same(self, self.find(bench, "s4"), ())

    def test_rows_of_no_letters_and_of_many(self):
        for letters in ((), (5,), tuple(range(13)) * 9):
            bench = self.looked(len(letters))
            pieces = pieces_of(letters, SETTINGS)
            for number in (5, 0, 3):
                self.check_waits(bench)
                same(self, self.find(bench, SHELVES[number], pieces[number]), ())
            self.check_over(bench, letters, 2)

    def test_a_wrong_piece(self):
        """Three pieces of which one is wrong tell nothing; four are enough."""
        for wrong in ((0, 0, 0), PIECES[4], (), (1,), (7, 8, 9, 9), (13, 0, 0), (-1, 2, 3)):
            for at in range(4):
                bench = self.looked()
                for number in range(3):
                    self.find(bench, SHELVES[number], wrong if number == at else None)
                if at < 3:
                    self.check_waits(bench)
                    self.find(bench, "s6")
                self.check_over(bench, LETTERS, 2)

    def test_two_wrong_pieces_of_two_shelves(self):
        settings = Settings(1, 8, 2, 2, 0, 13, 400, 3)
        pieces = pieces_of(LETTERS, settings)
        bench = Bench(settings)
        bench.say("file", F)
        bench.say("commit", F, 0, W0, 5, tuple((f"s{number}", 0) for number in range(1, 9)))
        bench.book(bench.hand.call(("read", F, 0)))
        for number, piece in ((8, (1, 2, 3)), (1, pieces[0]), (2, pieces[1]), (7, pieces[0]), (3, pieces[2])):
            bench.hear(f"s{number}", "piece", 0, W0, piece, 0)
            self.check_waits(bench)
        bench.hear("s4", "piece", 0, W0, pieces[3], 0)
        self.check_over(bench, LETTERS, 2)

    def test_what_is_not_found(self):
        bench = self.looked()
        self.find(bench, "s1")
        self.find(bench, "s2")
        self.check_nothing(
            bench, ("s1", "piece", 0, W0, PIECES[0], 0), ("s2", "piece", 0, W0, PIECES[1], 5),
            ("s3", "piece", 0, W0, None, 0), ("s3", "piece", 1, W0, PIECES[2], 0), ("s3", "kept", W0, 0),
            ("s3", "holds", 0, 0, (W0,)), ("s3", "gone", 0, W0), ("s3", "fixed", 0, W0, 0), ("s3", "full", W0, 0),
            ("b1", "folded", 4), ("b1", "piece", 0, W0, PIECES[2], 0), ("s7", "piece", 0, W0, (0, 0, 0), 0))
        self.check_waits(bench)
        # None took the place of an answer: the piece may come later.
        self.find(bench, "s3")
        self.check_over(bench, LETTERS, 2)

    def test_the_first_piece_of_each_shelf(self):
        bench = self.looked()
        self.find(bench, "s1", (0, 0, 0))
        self.find(bench, "s1")
        self.find(bench, "s2")
        self.find(bench, "s3")
        self.check_waits(bench)
        self.find(bench, "s4", life=7)
        self.check_over(bench, LETTERS, 2)

    def test_nudges(self):
        bench = self.with_rows(5)
        letters = bench.hand.call(("read", F, 0))
        same(self, bench.hand.nudge(), letters)
        bench.book(letters)
        self.find(bench, "s1")
        self.find(bench, "s2")
        # The gathering is given up: "look" again, and while it is open no piece means anything.
        letters = bench.hand.nudge()
        self.check_asks(letters, 3)
        same(self, bench.hand.nudge(), letters)
        self.check_nothing(bench, *[(shelf, "piece", turn, W0, PIECES[number], 0)
                                    for number, shelf in enumerate(SHELVES) for turn in (0, 1)])
        same(self, bench.book(letters), to_shelves("get", 1, W0))
        self.check_nothing(bench, *[(shelf, "piece", 0, W0, PIECES[number], 0)
                                    for number, shelf in enumerate(SHELVES)])
        for shelf in ("s4", "s5", "s6"):
            self.find(bench, shelf, turn=1)
        self.check_over(bench, LETTERS, 3)
        same(self, bench.hand.nudge(), ())

    def test_another_write_behind_a_nudge(self):
        bench = self.looked()
        self.find(bench, "s1")
        bench.say("commit", F, 0, W1, 1, MARKS)
        same(self, bench.book(bench.hand.nudge()), to_shelves("get", 1, W1))
        for number in (0, 1, 2):
            self.find(bench, SHELVES[number], pieces_of((3,), SETTINGS)[number], 1, W1)
        self.check_over(bench, (3,), 4)

    def test_a_row_that_is_gone_behind_a_nudge(self):
        bench = self.looked()
        bench.say("cut", F, 0)
        same(self, bench.book(bench.hand.nudge()), ())
        self.check_over(bench, "gap", 4)

    def test_turns_are_counted_over_the_whole_life(self):
        bench = self.with_rows(5, 5)
        for turn, number in enumerate((0, 1, 0)):
            same(self, bench.book(bench.hand.call(("read", F, number))), to_shelves("get", turn, ("a", number)))
            for shelf in ("s1", "s2", "s3"):
                self.find(bench, shelf, turn=turn, write=("a", number))
            self.check_over(bench, LETTERS, 3 + turn)
        # A deed that gathers nothing takes no turn, a telling takes one.
        bench.book(bench.hand.call(("read", F, 2)))
        self.check_over(bench, "gap", 6)
        same(self, bench.hand.call(("sweep", "s2")), to_shelves("tell", 3, shelves=("s2",)))
        bench.book(bench.hear("s2", "holds", 3, 0, ()))
        self.check_over(bench, (), 7)
        same(self, bench.book(bench.hand.call(("read", F, 0))), to_shelves("get", 4, W0))


if __name__ == "__main__":
    unittest.main()
