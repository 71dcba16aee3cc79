"""Promises [31] to [36]: what each command changes, and what is answered."""

import unittest

from keptfiles.errors import Settings
from keptfiles.machine import State, start_state, step
from tests.helpers import same, state_tuple

SETTINGS = Settings(3, 4, 2, 0, 1, 11, 40, 2)
ROOT = ((), None)
A, B, AB, ABC, C, D = ("a",), ("b",), ("a", "b"), ("a", "b", "c"), ("c",), ("d",)
W0, W1, W2, W3 = ("ann", 0), ("ann", 1), ("ann", 2), ("ann", 3)
ALL = (("s1", 0), ("s2", 0), ("s3", 0), ("s4", 0))
ATTRIBUTES = ("need", "tree", "used", "barred", "lives", "many", "last")
NO_NUMBERS = (True, False, -1, None, "1", (1,), (), 1.0)
NO_NAMES = ("", "1a", "A", "aB", "a-b", "a b", "a_b", "a.b", "abcdefghijklm", "\u00e9", "a\u0661", "a\n", 1, None, ("a",),
            True, b"a")
NO_SHELVES = ("s0", "s5", "s", "s01", "S1", "b1", "ann", "", 1, None, ("s1",), "s1 ")


class Checks(unittest.TestCase):
    def setUp(self):
        self.state = start_state(SETTINGS)

    def do(self, word, *body, hand="ann"):
        """A command that is done; its answer."""
        self.state, answer = step(self.state, ((hand, 0), word, body))
        return answer

    def check_command(self, answer, command, **changed):
        """The answer to a command; of the State behind it only what is told is changed. It stays as it is."""
        before = state_tuple(self.state)
        after, told = step(self.state, command)
        same(self, told, answer)
        self.assertIsInstance(after, State)
        same(self, state_tuple(self.state), before)
        (hand, count), _, _ = command
        last = [told for told in self.state.last if told[0] != hand] + [(hand, count, answer, self.state.many)]
        expected = {"many": self.state.many + 1, "last": tuple(sorted(last, key=lambda told: told[0])), **changed}
        for name, value in zip(ATTRIBUTES, before):
            same(self, getattr(after, name), expected.get(name, value))
        return after

    def check(self, answer, word, *body, **changed):
        return self.check_command(answer, (("ann", 7), word, body), **changed)

    def check_wrong(self, word, *bodies):
        for body in bodies:
            self.check_command("wrong", (("ann", 7), word, body))

    def tree(self, *pairs):
        """The tree of the State becomes the root and these pairs."""
        old = self.state
        self.state = State(old.need, (ROOT,) + pairs, old.used, old.barred, old.lives, old.many, old.last)


class States(Checks):
    def test_attributes(self):
        state = State(1, 2, 3, 4, 5, 6, 7)
        same(self, state_tuple(state), (1, 2, 3, 4, 5, 6, 7))
        state = State(last=7, many=6, lives=5, barred=4, used=3, tree=2, need=1)
        same(self, state_tuple(state), (1, 2, 3, 4, 5, 6, 7))

    def test_start_state(self):
        same(self, state_tuple(start_state(SETTINGS)), (3, (ROOT,), (), (), ((0, True),) * 4, 0, ()))
        for settings in (Settings(1, 1, 1, 0, 0, 2, 9, 1), Settings(7, 8, 2, 2, 2, 11, 9, 1)):
            state = start_state(settings=settings)
            same(self, state_tuple(state),
                 (settings.need, (ROOT,), (), (), ((0, True),) * settings.shelves, 0, ()))

    def test_by_names(self):
        state, answer = step(command=(("ann", 0), "make", (A,)), state=start_state(SETTINGS))
        same(self, answer, "done")
        same(self, state.tree, (ROOT, (A, None)))

    def test_the_pair_is_a_tuple(self):
        self.assertIsInstance(step(self.state, (("ann", 0), "idle", ())), tuple)

    def test_many_and_last(self):
        for command, answer in (((("cyd", 4), "make", (A,)), "done"), ((("ann", 0), "idle", ()), "idle"),
                                ((("bob", 9), "what", ()), "wrong"), ((("ann", 3), "list", ((),)),
                                                                     ("names", (("a", "folder"),))),
                                ((("cyd", 5), "make", (A, A)), "wrong"), ((("b", 0), "size", (A,)), "none"),
                                ((("ann", 4), "make", (A,)), "there")):
            changed = {"tree": (ROOT, (A, None))} if command[0] == ("cyd", 4) else {}
            self.state = self.check_command(answer, command, **changed)
        same(self, self.state.many, 7)
        same(self, self.state.last, (("ann", 4, "there", 6), ("b", 0, "none", 5), ("bob", 9, "wrong", 2),
                                     ("cyd", 5, "wrong", 4)))

    def test_last_does_not_look_at_counts(self):
        self.state = self.check_command("idle", (("ann", 5), "idle", ()))
        self.state = self.check_command("idle", (("ann", 2), "idle", ()))
        same(self, self.state.last, (("ann", 2, "idle", 1),))


class Making(Checks):
    def check_both(self, answer, path, put=None):
        for word, rows in (("make", None), ("file", ())):
            changed = {}
            if answer == "done":
                changed["tree"] = tuple(sorted(self.state.tree + ((path, rows),), key=lambda pair: pair[0]))
            self.check(answer, word, path, **changed)

    def test_in_the_root(self):
        self.check_both("done", A)
        self.check_both("done", ("a" * 12,))
        self.check_both("done", ("z9",))
        self.tree((B, ((W0, 1),)))
        self.check_both("done", A)
        self.check_both("done", C)

    def test_there(self):
        self.tree((A, None), (B, ((W0, 1),)), (C, ()))
        for path in ((), A, B, C):
            self.check_both("there", path)

    def test_folder(self):
        self.tree((A, None), (AB, ()), (C, ((W0, 1),)))
        for path in (("b", "c"), ABC, ("a", "c", "b"), ("c", "a"), ("d", "d", "d", "d"), ("a", "a", "a")):
            self.check_both("folder", path)
        for path in (("a", "a"), ("a", "c"), B, D):
            self.check_both("done", path)

    def test_paths_ascend(self):
        for path in (B, ("a",), ("a", "z"), ("a", "b"), ("a0",), ("b", "a"), ("a", "z", "a"), ("a1",), ("b1",)):
            same(self, self.do("make", path), "done")
            same(self, self.state.tree, tuple(sorted(self.state.tree, key=lambda pair: pair[0])))
        same(self, [path for path, _ in self.state.tree], [
            (), ("a",), ("a", "b"), ("a", "z"), ("a", "z", "a"), ("a0",), ("a1",), ("b",), ("b", "a"), ("b1",)])


class Listing(Checks):
    def test_answers(self):
        self.check(("names", ()), "list", ())
        self.tree((A, None), (AB, None), (ABC, ()), (("a", "b", "d"), None), (("a", "z"), ((W0, 3),)), (("ab",), ()),
                  (("b",), None), (("b0",), None))
        self.check(("names", (("a", "folder"), ("ab", "file"), ("b", "folder"), ("b0", "folder"))), "list", ())
        self.check(("names", (("b", "folder"), ("z", "file"))), "list", A)
        self.check(("names", (("c", "file"), ("d", "folder"))), "list", AB)
        self.check(("names", ()), "list", B)
        for path in (ABC, ("a", "z"), ("ab",)):
            self.check("file", "list", path)
        for path in (C, ("b", "a"), ("a", "b", "c", "d"), ("a", "b", "e"), ("a", "z", "a")):
            self.check("none", "list", path)


class Moving(Checks):
    def setUp(self):
        super().setUp()
        self.tree((A, None), (AB, None), (ABC, ((W0, 1), (W1, 0))), (("ab",), ()), (C, None), (("c", "b"), ()),
                  (("f",), ((W2, 2),)))

    def check_move(self, path, to, *pairs):
        self.check("done", "move", path, to, tree=(ROOT,) + pairs)

    def test_none(self):
        for path in (B, ("a", "c"), ("f", "f"), ("c", "b", "a")):
            for to in (B, (), A, path, path + ("x",), ("z", "z")):
                self.check("none", "move", path, to)

    def test_root(self):
        for to in ((), A, B, ("z", "z")):
            self.check("root", "move", (), to)

    def test_within(self):
        for to in (AB, ABC, ("a", "z"), ("a", "b", "z"), ("a", "z", "z", "z")):
            self.check("within", "move", A, to)
        self.check("within", "move", ("f",), ("f", "f"))

    def test_there(self):
        for to in (A, (), ("ab",), C, ("c", "b"), ("f",)):
            self.check("there", "move", A, to)
        for to in (("f",), A, AB, ABC, ()):
            self.check("there", "move", ("f",), to)
        self.check("there", "move", AB, A)

    def test_folder(self):
        for to in (("z", "z"), ("f", "a"), ("ab", "a"), ("c", "b", "a"), ("c", "c", "c")):
            self.check("folder", "move", A, to)
        self.check("folder", "move", ("f",), ("a", "b", "c", "d"))

    def test_a_file(self):
        self.check_move(("f",), B, (A, None), (AB, None), (ABC, ((W0, 1), (W1, 0))), (("ab",), ()), (B, ((W2, 2),)),
                        (C, None), (("c", "b"), ()))
        self.check_move(ABC, ("c", "a"), (A, None), (AB, None), (("ab",), ()), (C, None),
                        (("c", "a"), ((W0, 1), (W1, 0))), (("c", "b"), ()), (("f",), ((W2, 2),)))
        self.check_move(ABC, ("a", "b", "b"), (A, None), (AB, None), (("a", "b", "b"), ((W0, 1), (W1, 0))),
                        (("ab",), ()), (C, None), (("c", "b"), ()), (("f",), ((W2, 2),)))

    def test_a_folder_with_all_below(self):
        self.check_move(A, ("c", "z"), (("ab",), ()), (C, None), (("c", "b"), ()), (("c", "z"), None),
                        (("c", "z", "b"), None), (("c", "z", "b", "c"), ((W0, 1), (W1, 0))), (("f",), ((W2, 2),)))
        self.check_move(AB, B, (A, None), (("ab",), ()), (B, None), (("b", "c"), ((W0, 1), (W1, 0))), (C, None),
                        (("c", "b"), ()), (("f",), ((W2, 2),)))
        self.check_move(C, ("a", "b", "a"), (A, None), (AB, None), (("a", "b", "a"), None), (("a", "b", "a", "b"), ()),
                        (ABC, ((W0, 1), (W1, 0))), (("ab",), ()), (("f",), ((W2, 2),)))

    def test_paths_that_only_look_alike(self):
        self.check_move(A, ("abc",), (("ab",), ()), (("abc",), None), (("abc", "b"), None),
                        (("abc", "b", "c"), ((W0, 1), (W1, 0))), (C, None), (("c", "b"), ()), (("f",), ((W2, 2),)))
        self.tree((A, None), (AB, None), (("a", "bb"), ()), (("ab",), ()))
        self.check_move(A, ("z",), (("ab",), ()), (("z",), None), (("z", "b"), None), (("z", "bb"), ()))
        self.check_move(AB, ("a", "bbb"), (A, None), (("a", "bb"), ()), (("a", "bbb"), None), (("ab",), ()))


class Dropping(Checks):
    def test_answers(self):
        self.tree((A, None), (AB, None), (ABC, ((W0, 1),)), (("a", "bb"), None), (("ab",), ()))
        pairs = self.state.tree[1:]
        for path in (B, ("a", "c"), ("a", "b", "c", "d"), ("ab", "a")):
            self.check("none", "drop", path)
        self.check("root", "drop", ())
        self.check("full", "drop", A)
        self.check("full", "drop", AB)
        for path in (ABC, ("a", "bb"), ("ab",)):
            self.check("done", "drop", path, tree=(ROOT,) + tuple(pair for pair in pairs if pair[0] != path))

    def test_an_empty_root_is_not_dropped(self):
        self.check("root", "drop", ())

    def test_a_write_stays_used(self):
        self.do("file", A)
        same(self, self.do("commit", A, 0, W0, 1, ALL), "done")
        same(self, self.do("drop", A), "done")
        same(self, self.do("file", A), "done")
        self.check("used", "commit", A, 0, W0, 1, ALL)
        self.check("used", "bar", W0)


class Committing(Checks):
    def setUp(self):
        super().setUp()
        self.do("make", B)
        self.do("file", A)
        self.do("commit", A, 0, W0, 5, ALL)
        self.do("commit", A, 1, ("ann", 10), 6, ALL)
        self.do("bar", W3)
        self.rows = ((W0, 5), (("ann", 10), 6))

    def check_done(self, number, write, count, *rows, marks=ALL):
        used = tuple(sorted(self.state.used + (write,)))
        return self.check("done", "commit", A, number, write, count, marks, tree=(ROOT, (A, rows), (B, None)), used=used)

    def test_none(self):
        for path in ((), B, C, AB):
            for number in (0, 1, 5):
                for write in (W0, W1, W3):
                    self.check("none", "commit", path, number, write, 1, ())

    def test_gap(self):
        for number in (3, 4, 10 ** 9):
            for write in (W0, W1, W3):
                for marks in ((), ALL):
                    self.check("gap", "commit", A, number, write, 1, marks)

    def test_barred_and_used(self):
        for number in (0, 1, 2):
            for marks in ((), ALL):
                self.check("barred", "commit", A, number, W3, 1, marks)
                self.check("used", "commit", A, number, W0, 1, marks)

    def test_few(self):
        for marks in ((), ALL[:2], ALL[1:3], ALL[:1] * 5, ALL[:2] + ALL[:2], (("s1", 1),) + ALL[1:3],
                      (("s1", 1), ("s2", 1), ("s3", 1), ("s4", 1))):
            self.check("few", "commit", A, 1, W1, 1, marks)

    def test_done(self):
        first, second = self.rows
        self.check_done(0, W1, 7, (W1, 7), second)
        self.check_done(1, W1, 0, first, (W1, 0))
        self.check_done(2, W1, 1, first, second, (W1, 1))
        for marks in (ALL[:3], ALL[1:], ALL[::-1], ALL[2:] + ALL[2:] + ALL[:1], (("s1", 9),) + ALL[1:], ALL * 3,
                      (("s1", 5), ("s1", 0), ("s2", 3), ("s3", 0), ("s2", 0))):
            self.check_done(2, W1, 1, first, second, (W1, 1), marks=marks)

    def test_a_write_that_was_written_over_stays_used(self):
        self.state = self.check_done(0, W1, 7, (W1, 7), self.rows[1])
        self.check("used", "commit", A, 0, W0, 5, ALL)
        self.check("used", "bar", W0)
        same(self, self.state.used, (W0, W1, ("ann", 10)))

    def test_marks_of_the_present_of_elder_and_of_later_lives(self):
        self.do("life", "s1", 4)
        self.do("life", "s2", 1)
        self.do("whole", "s2", 1)
        s3, s4 = ALL[2:]
        for marks in ((("s1", 3), s3, s4), (("s1", 5), s3, s4), (("s1", 0), s3, s4), (("s2", 0), s3, s4),
                      (("s2", 2), s3, s4), (("s1", 4), ("s2", 0), s3), ALL, (("s1", 4), ("s1", 4), s3)):
            self.check("few", "commit", A, 2, W1, 1, marks)
        for marks in ((("s1", 4), s3, s4), (("s2", 1), s3, s4), (("s1", 4), ("s2", 1), s3),
                      (("s1", 3), ("s1", 4), ("s1", 5), s3, s4)):
            self.check_done(2, W1, 1, *self.rows, (W1, 1), marks=marks)

    def test_just_need_shelves_and_one_fewer(self):
        for settings in (Settings(1, 1, 1, 0, 0, 2, 9, 1), Settings(1, 8, 1, 2, 3, 11, 9, 1),
                         Settings(1, 8, 4, 1, 0, 11, 9, 1), Settings(1, 8, 1, 0, 0, 11, 9, 1)):
            state = start_state(settings)
            state, _ = step(state, (("ann", 0), "file", (A,)))
            marks = tuple(("s" + str(number), 0) for number in range(settings.shelves, 0, -1))
            for many in range(settings.shelves + 1):
                answer = "done" if many >= settings.need else "few"
                same(self, step(state, (("ann", 1), "commit", (A, 0, W0, 1, marks[:many])))[1], answer)

    def test_used_ascends(self):
        for write in (("ann", 4), ("ann", 3000), W1, ("ann", 20)):
            same(self, self.do("commit", A, 0, write, 1, ALL), "done")
        same(self, self.do("commit", A, 0, ("an", 50), 1, ALL, hand="an"), "done")
        same(self, self.state.used, (("an", 50), W0, W1, ("ann", 4), ("ann", 10), ("ann", 20), ("ann", 3000)))

    def test_a_write_of_another_hand(self):
        for path in (A, B, C):
            for write in (("bob", 1), ("an", 1), ("annn", 1)):
                self.check("wrong", "commit", path, 0, write, 1, ALL)
        same(self, self.do("commit", A, 0, ("bob", 1), 1, ALL, hand="bob"), "done")


class Rows(Checks):
    def setUp(self):
        super().setUp()
        self.rows = ((W0, 5), (W2, 0), (W1, 7))
        self.tree((A, self.rows), (B, None), (C, ()))

    def test_look(self):
        for path in ((), B, D, ("a", "b"), ("b", "b")):
            self.check("none", "look", path, 0)
        for number, (write, count) in enumerate(self.rows):
            self.check(("write", write, count), "look", A, number)
        for number in (3, 4, 10 ** 9):
            self.check("gap", "look", A, number)
        self.check("gap", "look", C, 0)

    def test_size(self):
        for path in ((), B, D, ("a", "b")):
            self.check("none", "size", path)
        self.check(("size", 3), "size", A)
        self.check(("size", 0), "size", C)

    def test_cut(self):
        for path in ((), B, D, ("a", "b")):
            self.check("none", "cut", path, 0)
        for length in range(4):
            self.check("done", "cut", A, length, tree=(ROOT, (A, self.rows[:length]), (B, None), (C, ())))
        for length in (4, 5, 10 ** 9):
            self.check("gap", "cut", A, length)
        self.check("done", "cut", C, 0)
        self.check("gap", "cut", C, 1)

    def test_writes_that_were_cut_stay_used(self):
        self.do("commit", C, 0, ("ann", 9), 1, ALL)
        self.do("cut", C, 0)
        same(self, self.state.used, (("ann", 9),))
        self.check("used", "commit", C, 0, ("ann", 9), 1, ALL)


class Bars(Checks):
    def test_bar(self):
        self.do("file", A)
        self.do("commit", A, 0, W1, 1, ALL)
        self.check("used", "bar", W1)
        self.state = self.check("barred", "bar", W0, barred=(W0,))
        self.check("barred", "bar", W0)
        self.state = self.check("barred", "bar", ("bob", 0), barred=(W0, ("bob", 0)))
        self.state = self.check("barred", "bar", ("ann", 20), barred=(W0, ("ann", 20), ("bob", 0)))
        self.state = self.check("barred", "bar", ("ann", 3), barred=(W0, ("ann", 3), ("ann", 20), ("bob", 0)))
        self.check("barred", "commit", A, 0, W0, 1, ALL)
        self.check("used", "bar", W1)


class Lives(Checks):
    def lives(self, place, life, is_whole):
        lives = self.state.lives
        return lives[:place] + ((life, is_whole),) + lives[place + 1:]

    def test_life(self):
        for place, shelf in enumerate(("s1", "s2", "s3", "s4")):
            self.check("known", "life", shelf, 0)
            self.state = self.check("new", "life", shelf, 2, lives=self.lives(place, 2, False))
            self.check("known", "life", shelf, 2)
            self.check("old", "life", shelf, 1)
            self.check("old", "life", shelf, 0)
            self.state = self.check("new", "life", shelf, 3, lives=self.lives(place, 3, False))
        same(self, self.state.lives, ((3, False),) * 4)

    def test_whole(self):
        for place, shelf in enumerate(("s1", "s2", "s3", "s4")):
            self.check("whole", "whole", shelf, 0)
            self.check("other", "whole", shelf, 1)
            self.do("life", shelf, 5)
            for life in (0, 4, 6):
                self.check("other", "whole", shelf, life)
            self.state = self.check("whole", "whole", shelf, 5, lives=self.lives(place, 5, True))
            self.check("whole", "whole", shelf, 5)
            self.check("known", "life", shelf, 5)
        same(self, self.state.lives, ((5, True),) * 4)
        self.check("new", "life", "s2", 6, lives=self.lives(1, 6, False))

    def test_idle(self):
        self.check("idle", "idle")


class Wrong(Checks):
    """What is "wrong" changes nothing but many and last."""

    def setUp(self):
        super().setUp()
        self.do("file", A)
        self.do("commit", A, 0, W0, 1, ALL)
        self.bodies = {
            "make": (D,), "file": (D,), "list": ((),), "move": (A, D), "drop": (A,), "commit": (A, 0, W1, 1, ALL),
            "look": (A, 0), "size": (A,), "cut": (A, 0), "bar": (W1,), "life": ("s1", 1), "whole": ("s1", 0),
            "idle": ()}
        self.no_paths = (*[(name,) for name in NO_NAMES], *[("a", name) for name in NO_NAMES],
                         None, 0, "a", "abc", "", ["a"], ("a", "b", None), {}, True)
        self.no_writes = (*[(name, 1) for name in NO_NAMES], *[("ann", number) for number in NO_NUMBERS],
                          None, "ann", ("ann",), (), ("ann", 1, 1), ["ann", 1], 1, ("ann", ("ann", 1)))
        self.no_marks = (None, (), ("s1",), ("s1", 0, 0), ["s1", 0], "s1", 0, *[(name, 0) for name in NO_SHELVES],
                         *[("s1", life) for life in NO_NUMBERS])

    def test_the_bodies_are_right(self):
        for word, body in self.bodies.items():
            self.assertNotEqual(step(self.state, (("ann", 1), word, body))[1], "wrong", word)

    def test_unknown_words(self):
        words = ("", "Make", "make ", "mkdir", "write", "read", "fold", "mend", "commits", "names", "wrong", "done", "ask")
        for word in words:
            self.check_wrong(word, (), (A,), (A, 0), (A, 0, W1, 1, ALL))

    def test_bodies_that_are_no_tuple(self):
        for word, body in self.bodies.items():
            self.check_wrong(word, list(body), None, "", "a", 0, True, {})

    def test_bodies_that_are_too_short_or_too_long(self):
        for word, body in self.bodies.items():
            for thing in ((), A, 0, None, "a"):
                self.check_wrong(word, body + (thing,), (thing,) + body)
            self.check_wrong(word, *[body[:many] for many in range(len(body))])

    def check_place(self, word, place, things):
        for thing in things:
            body = self.bodies[word]
            self.check_wrong(word, body[:place] + (thing,) + body[place + 1:])

    def test_paths(self):
        for word in ("make", "file", "list", "move", "drop", "commit", "look", "size", "cut"):
            self.check_place(word, 0, self.no_paths)
        self.check_place("move", 1, self.no_paths)

    def test_paths_with_names_at_the_edges(self):
        for name in ("b", "z", "a0", "z9", "abcdefghijkl", "a12345678901"):
            same(self, self.do("make", (name,)), "done")

    def test_numbers(self):
        for word, place in (("commit", 1), ("commit", 3), ("look", 1), ("cut", 1), ("life", 1), ("whole", 1)):
            self.check_place(word, place, NO_NUMBERS)

    def test_writes(self):
        self.check_place("commit", 2, self.no_writes)
        self.check_place("bar", 0, self.no_writes)

    def test_shelves(self):
        self.check_place("life", 0, NO_SHELVES)
        self.check_place("whole", 0, NO_SHELVES)

    def test_marks(self):
        self.check_place("commit", 4, (None, "", 0, list(ALL), True, ALL[0]))
        for mark in self.no_marks:
            self.check_place("commit", 4, ((mark,), ALL + (mark,), (mark,) + ALL))

    def test_shelves_of_other_settings(self):
        small, large = Settings(1, 1, 1, 0, 0, 2, 9, 1), Settings(1, 8, 1, 0, 0, 11, 9, 1)
        for settings in (small, large):
            state = start_state(settings)
            for number in range(1, 10):
                answer = "known" if number <= settings.shelves else "wrong"
                same(self, step(state, (("ann", 0), "life", ("s" + str(number), 0)))[1], answer)

    def test_wrong_stands_ahead_of_every_other_answer(self):
        self.check_wrong("commit", (D, 9, ("bob", 1), 1, ()), ((), 0, ("bob", 0), 1, ALL), (D, 0, W0, True, ()))
        self.check_wrong("move", (D, ("A",)), ((), None))
        self.check_wrong("look", (D, True), (D, -1))
        self.check_wrong("cut", (D, False))

    def test_true_and_false_look_like_numbers(self):
        same(self, self.do("life", "s1", 1), "new")
        self.check_wrong("life", ("s1", True), ("s2", False))
        self.check_wrong("whole", ("s1", True), ("s2", False))
        self.check_wrong("look", (A, False))
        self.check_wrong("bar", (("ann", False),), (("ann", True),))
        self.check_wrong("commit", (A, True, W1, 1, ALL[1:]), (A, 1, ("ann", True), 1, ALL[1:]),
                         (A, 1, W1, 1, (("s1", True),) + ALL[1:]), (A, 1, W1, 1, ALL[1:] + (("s1", True),)))
        same(self, self.do("commit", A, 1, W1, 1, ALL[1:]), "done")


if __name__ == "__main__":
    unittest.main()
