"""Promises [50] to [53], [56]: deeds of a hand, those that say one command, and folding."""

import unittest

from keptfiles.agree import Walker
from keptfiles.disk import Disk
from keptfiles.errors import BadDeed, Busy, Settings
from keptfiles.hands import Hand, need_deed
from keptfiles.machine import state_behind, state_data
from keptfiles.synod import BookServer, book
from tests.bench import SETTINGS, Bench, BenchCase
from tests.helpers import check_error, same

A = ("a",)
RIGHT = (("make", A), ("make", ()), ("file", ("a", "b1", "z9")), ("list", ()), ("move", A, ("b",)), ("move", (), ()),
         ("drop", A), ("cut", A, 0), ("cut", A, 7), ("size", A), ("write", A, 0, ()), ("write", A, 3, (0, 12)),
         ("read", A, 0), ("read", (), 10 ** 9), ("fold",), ("mend", "s1"), ("mend", "s6"), ("scrub", "s3"),
         ("sweep", "s2"), ("make", ("abcdefghijkl",)), ("make", ("a",) * 200))
WRONG = (
    None, True, 7, "make", (), [], {}, ("make",), ["make", A], ("make", A, A), ("make", ["a"]), ("make", "a"),
    ("make", ("A",)), ("make", ("",)), ("make", ("1a",)), ("make", ("a_",)), ("make", ("abcdefghijklm",)),
    ("make", ("a", 1)), ("make", (None,)), ("Make", A), ("", A), (None, A), (1, A), (["make"], A), (("make",), A),
    ("file", ("a b",)), ("file",), ("list", A, 0), ("list", None), ("move", A), ("move", A, A, A), ("move", A, ["b"]),
    ("move", ("a\n",), A), ("drop",), ("drop", {}), ("cut", A), ("cut", A, -1), ("cut", A, True), ("cut", A, "0"),
    ("cut", A, 0, 0), ("cut", 0, A), ("size",), ("size", A, 0), ("write", A, 0), ("write", A, 0, (), ()),
    ("write", A, 0, []), ("write", A, 0, 5), ("write", A, 0, (13,)), ("write", A, 0, (0, 99)), ("write", A, 0, (-1,)),
    ("write", A, 0, (True,)), ("write", A, 0, (1, False)), ("write", A, 0, ("1",)), ("write", A, 0, (None,)),
    ("write", A, -1, ()), ("write", A, False, ()), ("write", ["a"], 0, ()), ("read", A), ("read", A, -1),
    ("read", A, False), ("read", A, None), ("read", A, 0, 0), ("read", ("a", "B"), 0), ("fold", A), ("fold", ()),
    ("mend",), ("mend", "s0"), ("mend", "s7"), ("mend", "b1"), ("mend", "ann"), ("mend", 1), ("mend", ("s1",)),
    ("mend", None), ("mend", "s1", 0), ("scrub", "s01"), ("scrub",), ("sweep", "S1"), ("sweep", ["s1"]),
    ("look", A, 0), ("commit", A, 0, ("ann", 0), 0, ()), ("bar", ("ann", 0)), ("life", "s1", 1), ("whole", "s1", 0),
    ("idle",), ("size", (True,)))


class Calls(BenchCase):
    def test_attributes(self):
        hand = Hand("ann", SETTINGS)
        same(self, (hand.name, hand.is_busy, hand.result), ("ann", False, None))
        self.assertIs(hand.settings, SETTINGS)
        self.assertIsInstance(hand.walker, Walker)
        same(self, (hand.walker.owner, hand.walker.start, hand.walker.rows, hand.walker.told), ("ann", 0, (), None))

    def test_right_deeds(self):
        for deed in RIGHT:
            self.assertIsNone(need_deed(deed, SETTINGS))
            hand = Hand("ann", SETTINGS)
            letters = hand.call(deed)
            self.assertGreater(len(letters), 0)
            self.assertTrue(all(letter[0] == "ann" for letter in letters))
            same(self, (hand.is_busy, hand.result), (True, None))

    def test_wrong_deeds(self):
        hand = Hand("ann", SETTINGS)
        for deed in WRONG:
            check_error(self, BadDeed, {"deed": deed}, need_deed, deed, SETTINGS)
            check_error(self, BadDeed, {"deed": deed}, hand.call, deed)
            same(self, (hand.is_busy, hand.result, hand.nudge()), (False, None, ()))

    def test_settings_tell_what_is_right(self):
        small = Settings(3, 1, 1, 0, 0, 2, 9, 1)
        need_deed(("write", A, 0, (0, 1)), small)
        check_error(self, BadDeed, {"deed": ("write", A, 0, (2,))}, need_deed, ("write", A, 0, (2,)), small)
        need_deed(("mend", "s1"), small)
        check_error(self, BadDeed, {"deed": ("mend", "s2")}, need_deed, ("mend", "s2"), small)

    def test_keywords(self):
        need_deed(deed=("fold",), settings=SETTINGS)
        self.check_asks(Hand(name="ann", settings=SETTINGS).call(deed=("fold",)), 0)

    def test_busy_ahead_of_bad_deed(self):
        bench = Bench()
        letters = bench.hand.call(("make", A))
        for deed in (("make", A), ("make",), None):
            check_error(self, Busy, {"name": "ann"}, bench.hand.call, deed)
            self.check_waits(bench)
        bench.book(letters)
        self.check_over(bench, "done", 0)

    def test_is_busy_and_result_stay_behind_an_error(self):
        bench = Bench()
        bench.book(bench.hand.call(("make", A)))
        check_error(self, BadDeed, {"deed": ("make",)}, bench.hand.call, ("make",))
        self.check_over(bench, "done", 0)
        bench.hand.call(("make", A))
        self.check_waits(bench)

    def test_hear_and_nudge_without_a_deed(self):
        bench = Bench()
        letters = (("b1", "yes", 0, (0, "ann"), None, None), ("b1", "have", 0, (0, "ann")), ("b1", "past", 0, 4, None),
                   ("b1", "no", 0, (0, "ann"), (3, "bob")), ("b1", "folded", 3), ("s1", "kept", ("ann", 0), 0),
                   ("s1", "piece", 0, ("ann", 0), (1,), 0), ("s1", "holds", 0, 0, ()), ("s1", "full", ("ann", 0), 0),
                   ("s1", "gone", 0, ("ann", 0)), ("s1", "fixed", 0, ("ann", 0), 1))
        for _ in range(2):
            self.check_nothing(bench, *letters)
            same(self, bench.hand.nudge(), ())
            bench.book(bench.hand.call(("make", A)))


class Saying(BenchCase):
    def test_each_word(self):
        bench = Bench()
        deeds = (("make", A), ("file", ("a", "f")), ("list", ()), ("move", ("a", "f"), ("f",)), ("size", ("f",)),
                 ("cut", ("f",), 1), ("cut", ("f",), 0), ("drop", ("f",)), ("drop", ("f",)), ("make", A))
        answers = ("done", "done", ("names", (("a", "folder"),)), "done", ("size", 0), "gap", "done", "done", "none",
                   "there")
        for slot, (deed, answer) in enumerate(zip(deeds, answers)):
            letters = bench.hand.call(deed)
            self.check_asks(letters, slot)
            same(self, bench.book(letters), ())
            self.check_over(bench, answer, slot)
        same(self, bench.said(), [(deed[0], deed[1:]) for deed in deeds])

    def test_letters_stand_in_the_order_of_servers(self):
        hand = Hand("ann", Settings(7, 1, 1, 0, 0, 2, 60, 1))
        letters = hand.call(("list", ()))
        same(self, letters, tuple(("ann", f"b{number}", "ask", (0, (0, "ann"))) for number in range(1, 8)))
        same(self, hand.nudge(), letters)

    def test_behind_what_others_said(self):
        bench = Bench()
        same(self, bench.say("make", A), "done")
        same(self, bench.say("file", ("a", "b")), "done")
        bench.book(bench.hand.call(("make", A)))
        self.check_over(bench, "there", 2)
        same(self, bench.hand.walker.rows[:2], ((("a", 0), "make", (A,)), (("a", 1), "file", (("a", "b"),))))

    def test_letters_of_book_servers_step_by_step(self):
        hand = Hand("ann", Settings(3, 1, 1, 0, 0, 2, 60, 1))
        ballot = (0, "ann")
        letters = hand.call(("make", A))
        same(self, hand.hear(("b2", "ann", "yes", (0, ballot, None, None))), ())
        same(self, hand.nudge(), (letters[0], letters[2]))
        value = (("ann", 0), "make", (A,))
        same(self, hand.hear(("b1", "ann", "yes", (0, ballot, None, None))), tuple(
            ("ann", f"b{number}", "set", (0, ballot, value)) for number in (1, 2, 3)))
        # Shelves, and answers to what was asked ahead, mean nothing.
        for letter in (("s1", "ann", "kept", (("ann", 0), 0)), ("s1", "ann", "have", (0, ballot)),
                       ("b3", "ann", "yes", (0, ballot, None, None)), ("b3", "ann", "folded", (9,))):
            same(self, hand.hear(letter), ())
        same(self, hand.hear(("b3", "ann", "have", (0, ballot))), ())
        same(self, (hand.is_busy, hand.result), (True, None))
        same(self, hand.hear(("b1", "ann", "have", (0, ballot))), ())
        same(self, (hand.is_busy, hand.result, hand.walker.told), (False, ("done", 0), ("done", 0)))
        same(self, hand.hear(("b2", "ann", "have", (0, ballot))), ())
        same(self, hand.nudge(), ())

    def test_a_no_and_the_nudge_behind_it(self):
        bench = Bench()
        bench.servers["b1"].hear(("zoe", "b1", "ask", (0, (4, "zoe"))))
        same(self, bench.book(bench.hand.call(("make", A))), ())
        self.check_waits(bench)
        letters = bench.hand.nudge()
        self.check_asks(letters, 0, 5)
        bench.book(letters)
        self.check_over(bench, "done", 0)

    def test_a_past_that_goes_on_in_a_later_slot(self):
        bench = Bench()
        letters = bench.hand.call(("make", A))
        bench.say("make", ("b",))
        bench.fold()
        answer = bench.servers["b1"].hear(letters[0])
        same(self, answer[0][2], "past")
        self.check_asks(bench.hand.hear(answer[0]), 1)
        bench.book(bench.hand.nudge())
        self.check_over(bench, "done", 1)
        same(self, bench.hand.walker.start, 1)

    def test_a_past_that_tells_the_end(self):
        """The command was done, but all that told it was lost; then its slot was folded."""
        settings = Settings(3, 1, 1, 0, 0, 2, 200, 1)
        bench = Bench(settings)
        letters = bench.hand.call(("make", A))
        ballot = (0, "ann")
        answers = [bench.servers[letter[1]].hear(letter)[0] for letter in letters]
        sets = bench.hand.hear(answers[0]) + bench.hand.hear(answers[1])
        for letter in sets:
            bench.servers[letter[1]].hear(letter)
        same(self, bench.say("idle"), "idle")
        bench.fold()
        same(self, bench.hand.nudge(), sets)
        past = bench.servers["b2"].hear(sets[1])[0]
        same(self, past[2:], ("past", (0, 2, state_data(bench.other.state))))
        same(self, bench.hand.hear(past), ())
        self.check_over(bench, "done", 0)
        same(self, (bench.hand.walker.start, bench.hand.walker.rows, ballot[0]), (2, (), 0))


class Folding(BenchCase):
    def begun(self, servers):
        """A hand whose "idle" was answered; the letters "fold"."""
        bench = Bench(Settings(servers, 1, 1, 0, 0, 2, 200, 2))
        bench.book(bench.hand.call(("make", A)))
        letters = bench.hand.call(("fold",))
        while bench.hand.walker.told is None:
            letter = letters[0]
            target = bench.servers.get(letter[1], bench.hand)
            letters = letters[1:] + target.hear(letter)
        return bench, tuple(letter for letter in letters if letter[2] == "fold")

    def test_just_more_than_half(self):
        for servers in (1, 3, 5, 7):
            bench, letters = self.begun(servers)
            rows = ((("ann", 0), "make", (A,)), (("ann", 1), "idle", ()))
            body = (2, state_data(state_behind(bench.settings, rows)))
            same(self, letters, tuple(("ann", f"b{number}", "fold", body) for number in range(1, servers + 1)))
            same(self, bench.hand.nudge(), letters)
            for number in range(servers, servers - servers // 2, -1):
                same(self, bench.hear(f"b{number}", "folded", 2), ())
                same(self, bench.hear(f"b{number}", "folded", 3), ())
                self.check_waits(bench)
                same(self, bench.hand.nudge(), letters[:number - 1])
            same(self, bench.hear("b1", "folded", 7), ())
            self.check_over(bench, "folded", 1)

    def test_what_is_not_counted(self):
        bench, letters = self.begun(1)
        self.check_nothing(bench, ("b1", "folded", 1), ("b1", "folded", 0), ("s1", "folded", 2), ("b3", "folded", 2),
                           ("b1", "have", 1, (0, "ann")), ("b1", "past", 1, 5, None), ("zoe", "folded", 2))
        self.check_waits(bench)
        same(self, bench.hand.nudge(), letters)
        bench.hear("b1", "folded", 2)
        self.check_over(bench, "folded", 1)

    def test_folded_ahead_of_the_fold(self):
        bench = Bench()
        letters = bench.hand.call(("fold",))
        self.check_asks(letters, 0)
        same(self, bench.hear("b1", "folded", 9), ())
        same(self, bench.hand.nudge(), letters)
        yes = bench.servers["b1"].hear(letters[0])[0]
        have = bench.servers["b1"].hear(bench.hand.hear(yes)[0])[0]
        same(self, [letter[2] for letter in bench.hand.hear(have)], ["fold"])
        self.check_waits(bench)

    def test_with_servers_that_fold(self):
        for servers in (1, 3, 5, 7):
            bench = Bench(Settings(servers, 1, 1, 0, 0, 2, 200, 2))
            bench.book(bench.hand.call(("make", A)))
            same(self, bench.book(bench.hand.call(("fold",))), ())
            self.check_over(bench, "folded", 1)
            blocks = [server.disk.blocks for server in bench.servers.values()]
            state = state_behind(bench.settings, bench.hand.walker.rows)
            same(self, book(blocks), (2, state_data(state), ()))
            # The hand goes on from what it knows, and folds once more.
            bench.book(bench.hand.call(("make", ("b",))))
            self.check_over(bench, "done", 2)
            bench.book(bench.hand.call(("fold",)))
            self.check_over(bench, "folded", 3)
            same(self, (bench.hand.walker.start, len(bench.hand.walker.rows)), (0, 4))

    def test_behind_a_fold_of_another_hand(self):
        bench = Bench()
        bench.say("make", A)
        bench.fold()
        bench.book(bench.hand.call(("fold",)))
        self.check_over(bench, "folded", 1)
        same(self, bench.hand.walker.start, 1)
        blocks = bench.servers["b1"].disk.blocks
        same(self, book([blocks])[0], 2)

    def test_servers_that_fell_meanwhile(self):
        bench, letters = self.begun(3)
        answer = bench.servers["b1"].hear(letters[0])[0]
        same(self, bench.hand.hear(answer), ())
        again = BookServer("b1", bench.servers["b1"].disk, 2)
        same(self, again.hear(letters[0]), (answer,))
        same(self, bench.hand.hear(answer), ())
        self.check_waits(bench)
        same(self, bench.hand.hear(bench.servers["b3"].hear(letters[2])[0]), ())
        self.check_over(bench, "folded", 1)


class Disks(unittest.TestCase):
    def test_a_hand_has_no_disk(self):
        for thing in vars(Hand("ann", SETTINGS)).values():
            self.assertNotIsInstance(thing, Disk)


if __name__ == "__main__":
    unittest.main()
