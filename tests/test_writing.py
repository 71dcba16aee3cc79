"""Promise [54]: writes."""

import unittest

from keptfiles.agree import Walker
from keptfiles.code import pieces_of
from keptfiles.errors import Settings
from tests.bench import SETTINGS, SHELVES, Bench, BenchCase
from tests.helpers import same

F = ("f",)
LETTERS = (7, 8, 9, 12, 0)
PIECES = pieces_of(LETTERS, SETTINGS)
W0, W1, W2 = ("ann", 0), ("ann", 1), ("ann", 2)


def puts(write, shelves=SHELVES, pieces=PIECES):
    return tuple(("ann", shelf, "put", (write, pieces[SHELVES.index(shelf)])) for shelf in shelves)


def marks(lives):
    """Marks of the first shelves, in order, with these lives; None for one without a mark."""
    return tuple((shelf, life) for shelf, life in zip(SHELVES, lives) if life is not None)


class Writes(BenchCase):
    def begun(self, number=0, letters=LETTERS):
        """A bench with an empty file, in which a write was called."""
        bench = Bench()
        bench.say("file", F)
        same(self, bench.hand.call(("write", F, number, letters)), puts(W0, pieces=pieces_of(letters, SETTINGS)))
        return bench

    def keep(self, bench, shelves, write=W0, life=0):
        """Each of these shelves keeps its piece; all but the last answer send nothing. What the last one sends."""
        sent = ()
        for shelf in shelves:
            same(self, sent, ())
            sent = bench.hear(shelf, "kept", write, life)
        return sent

    def test_a_plain_write(self):
        bench = self.begun()
        letters = self.keep(bench, SHELVES[:5])
        self.check_asks(letters, 0)
        same(self, bench.book(letters), ())
        self.check_over(bench, "done", 1)
        same(self, bench.said(), [("commit", (F, 0, W0, 5, marks((0,) * 5)))])

    def test_just_need_marks_and_one_fewer(self):
        bench = self.begun()
        same(self, self.keep(bench, ("s6", "s2", "s4", "s1")), ())
        same(self, bench.hand.walker.told, None)
        same(self, bench.hand.nudge(), puts(W0, ("s3", "s5")))
        bench.book(self.keep(bench, ("s3",)))
        same(self, bench.said(), [("commit", (F, 0, W0, 5, marks((0, 0, 0, 0, None, 0))))])
        self.check_over(bench, "done", 1)

    def test_no_letters_and_many(self):
        for letters in ((), (5,), tuple(range(13)) * 9):
            bench = self.begun(letters=letters)
            bench.book(self.keep(bench, SHELVES[1:]))
            same(self, bench.said(), [("commit", (F, 0, W0, len(letters), marks((None, 0, 0, 0, 0, 0))))])
            self.check_over(bench, "done", 1)

    def test_what_is_no_mark(self):
        bench = self.begun()
        self.keep(bench, SHELVES[:4])
        self.check_nothing(
            bench, ("s5", "full", W0, 0), ("s5", "kept", W1, 0), ("s5", "kept", ("bob", 0), 0), ("s1", "kept", W0, 0),
            ("s5", "piece", 0, W0, (1,), 0), ("s5", "holds", 0, 0, (W0,)), ("s5", "gone", 0, W0),
            ("s5", "fixed", 0, W0, 1), ("b1", "folded", 3), ("b1", "have", 0, (0, "ann")), ("b1", "kept", W0, 0))
        same(self, bench.hand.nudge(), puts(W0, ("s5", "s6")))

    def test_marks_are_taken_while_a_command_is_open(self):
        bench = self.begun()
        letters = self.keep(bench, SHELVES[:5])
        same(self, bench.hear("s6", "kept", W0, 0), ())
        same(self, bench.hear("s1", "kept", W0, 3), ())
        same(self, bench.hand.nudge(), letters)
        bench.book(letters)
        # The commit was said ahead of these two.
        same(self, bench.said(), [("commit", (F, 0, W0, 5, marks((0,) * 5)))])
        self.check_over(bench, "done", 1)

    def test_one_shelf_twice(self):
        bench = self.begun()
        same(self, bench.hear("s1", "kept", W0, 2), ())
        same(self, bench.hear("s1", "kept", W0, 2), ())
        same(self, bench.hear("s1", "kept", W0, 1), ())
        same(self, bench.hear("s2", "kept", W0, 0), ())
        same(self, bench.hear("s2", "kept", W0, 1), ())
        bench.book(self.keep(bench, ("s3", "s4", "s5")))
        first = ("life", ("s1", 2)), ("life", ("s2", 1))
        same(self, bench.said(), [*first, ("commit", (F, 0, W0, 5, marks((2, 1, 0, 0, 0))))])
        self.check_over(bench, "done", 3)

    def test_lives_above_those_of_the_state(self):
        """The first of them in the order of the shelves, whichever answered first."""
        bench = self.begun()
        self.keep(bench, ("s5", "s4"), life=7)
        self.keep(bench, ("s2", "s1"))
        letters = self.keep(bench, ("s3",), life=1)
        same(self, bench.hand.nudge(), letters)
        bench.book(letters)
        same(self, bench.said(), [("life", ("s3", 1)), ("life", ("s4", 7)), ("life", ("s5", 7)),
                                  ("commit", (F, 0, W0, 5, marks((0, 0, 1, 7, 7))))])
        same(self, bench.hand.walker.state.lives, ((0, True),) * 2 + ((1, False), (7, False), (7, False), (0, True)))
        self.check_over(bench, "done", 4)

    def test_a_life_that_is_known_meanwhile(self):
        bench = self.begun()
        letters = self.keep(bench, SHELVES[:5], life=4)
        same(self, bench.say("life", "s1", 4), "new")
        same(self, bench.book(letters), ())
        same(self, bench.said(), [("life", (shelf, 4)) for shelf in SHELVES[:5]] + [
            ("commit", (F, 0, W0, 5, marks((4,) * 5)))])
        self.check_over(bench, "done", 7)

    def test_a_life_that_is_old_meanwhile(self):
        bench = self.begun()
        letters = self.keep(bench, SHELVES[:5], life=4)
        same(self, bench.say("life", "s1", 9), "new")
        # The mark is forgotten and the shelf asked anew; the others do not suffice.
        same(self, bench.book(letters), puts(W0, ("s1",)))
        self.check_waits(bench)
        same(self, bench.said(), [("life", ("s1", 4))])
        bench.book(bench.hear("s1", "kept", W0, 9))
        self.check_over(bench, "done", 7)

    def test_lives_below_those_of_the_state(self):
        bench = self.begun()
        bench.say("life", "s1", 3)
        # Another deed would have told the hand; here its own commit does.
        letters = self.keep(bench, SHELVES[:5])
        same(self, bench.book(letters), puts(W0, ("s1",)))
        same(self, bench.said(), [("commit", (F, 0, W0, 5, marks((0,) * 5)))])
        self.check_waits(bench)
        same(self, bench.hand.nudge(), puts(W0, ("s1", "s6")))
        for life in (0, 1, 2):
            self.check_nothing(bench, ("s1", "kept", W0, life))
        bench.book(bench.hear("s1", "kept", W0, 3))
        same(self, bench.said()[1:], [("commit", (F, 0, W0, 5, marks((3, 0, 0, 0, 0))))])
        self.check_over(bench, "done", 3)

    def test_forgotten_marks_of_several_shelves_ahead_of_what_follows(self):
        bench = self.begun()
        bench.say("life", "s5", 2)
        bench.say("life", "s2", 2)
        letters = self.keep(bench, SHELVES[:5])
        same(self, bench.hear("s6", "kept", W0, 0), ())
        same(self, bench.book(letters), puts(W0, ("s2", "s5")))
        same(self, bench.hear("s2", "kept", W0, 5), bench.hand.nudge())
        # "life" of s2 is open; meanwhile s5 answers.
        same(self, bench.hear("s5", "kept", W0, 1), ())
        same(self, bench.hear("s5", "kept", W0, 2), ())

    def test_puts_are_sent_ahead_of_a_command(self):
        """A forgotten mark is not needed: six shelves have marks, and five of them are still good."""
        bench = self.begun()
        bench.say("life", "s2", 2)
        letters = self.keep(bench, SHELVES[:5])
        same(self, bench.hear("s6", "kept", W0, 0), ())
        while bench.hand.walker.rows[2:] == ():
            letter = letters[0]
            letters = letters[1:] + (bench.servers["b1"] if letter[1] == "b1" else bench.hand).hear(letter)
        same(self, letters[:1], puts(W0, ("s2",)))
        self.check_asks(letters[1:], 3)
        bench.book(letters)
        same(self, bench.said()[-1], ("commit", (F, 0, W0, 5, marks((0, None, 0, 0, 0, 0)))))
        self.check_over(bench, "done", 3)

    def test_answers(self):
        for path, number, answer in ((F, 0, "done"), (F, 1, "gap"), (("g",), 0, "none"), ((), 0, "none")):
            bench = Bench()
            bench.say("file", F)
            bench.hand.call(("write", path, number, LETTERS))
            bench.book(self.keep(bench, SHELVES[:5]))
            self.check_over(bench, answer, 1)
            same(self, bench.said(), [("commit", (path, number, W0, 5, marks((0,) * 5)))])

    def test_used(self):
        """Only its own hand can use a name: here another one takes the name of the hand, as callers never do."""
        bench = self.begun()
        bench.other = Walker("ann", SETTINGS)
        same(self, bench.say("commit", F, 0, W0, 5, marks((0,) * 6)), "done")
        bench.book(self.keep(bench, SHELVES[:5]))
        self.check_over(bench, "used", 2)

    def test_barred(self):
        bench = self.begun()
        bench.say("bar", W0)
        same(self, bench.book(self.keep(bench, SHELVES[:5])), puts(W1))
        self.check_waits(bench)
        # No marks are left, and what the shelves say of the barred one means nothing.
        same(self, bench.hand.nudge(), puts(W1))
        self.check_nothing(bench, *[(shelf, "kept", W0, 0) for shelf in SHELVES])
        bench.say("bar", W1)
        same(self, bench.book(self.keep(bench, SHELVES[1:], W1)), puts(W2))
        bench.book(self.keep(bench, SHELVES[:5], W2))
        same(self, [command[1][2] for command in bench.said()], [W0, W1, W2])
        self.check_over(bench, "done", 5)

    def test_names_are_counted_over_the_whole_life(self):
        bench = self.begun()
        bench.book(self.keep(bench, SHELVES[:5]))
        same(self, bench.hand.call(("write", F, 9, (1, 2))), puts(W1, pieces=pieces_of((1, 2), SETTINGS)))
        bench.book(self.keep(bench, SHELVES[:5], W1))
        self.check_over(bench, "gap", 2)
        bench.book(bench.hand.call(("size", F)))
        same(self, bench.hand.call(("write", F, 1, LETTERS)), puts(W2))
        # "kept" of an elder write means nothing.
        self.check_nothing(bench, *[(shelf, "kept", write, 0) for shelf in SHELVES for write in (W0, W1)])
        bench.book(self.keep(bench, SHELVES[:5], W2))
        self.check_over(bench, "done", 4)
        same(self, bench.hand.walker.state.tree[-1], (F, ((W0, 5), (W2, 5))))

    def test_nudges(self):
        bench = self.begun()
        same(self, bench.hand.nudge(), puts(W0))
        self.keep(bench, ("s3", "s1"))
        same(self, bench.hand.nudge(), puts(W0, ("s2", "s4", "s5", "s6")))
        letters = self.keep(bench, ("s2", "s4", "s5"))
        # The command is open: the nudge is that of the walker.
        self.check_asks(letters, 0)
        same(self, bench.hand.nudge(), letters)
        sets = bench.hand.hear(bench.servers["b1"].hear(letters[0])[0])
        same(self, [letter[2] for letter in sets], ["set"])
        same(self, bench.hand.nudge(), sets)
        bench.book(bench.hand.nudge())
        same(self, bench.hand.nudge(), ())
        self.check_over(bench, "done", 1)

    def test_few_with_enough_marks_is_said_again(self):
        """Six marks, one of them of a life that the book leaves behind: five are enough."""
        settings = Settings(1, 6, 2, 1, 0, 13, 400, 3)
        bench = Bench(settings)
        bench.say("file", F)
        bench.hand.call(("write", F, 0, LETTERS))
        letters = self.keep(bench, SHELVES[:4])
        bench.say("life", "s4", 1)
        for shelf in ("s5", "s6"):
            same(self, bench.hear(shelf, "kept", W0, 0), ())
        same(self, bench.book(letters), puts(W0, ("s4",)))
        same(self, [body[4] for _, body in bench.said()], [marks((0,) * 4), marks((0, 0, 0, None, 0, 0))])
        self.check_over(bench, "done", 3)


if __name__ == "__main__":
    unittest.main()
