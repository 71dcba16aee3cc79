"""Promises [86] to [90]: desks, their files, edits and promises."""

import unittest
from unittest import mock

from keptfiles.desk import Desk
from keptfiles.errors import (BadName, BadNumber, BadText, NoLetter, NoName, NotKept, NothingToRedo, NothingToUndo,
                              StoreError, TakenName, TooMany)
from keptfiles.judge import Trouble
from keptfiles.story import Story
from keptfiles.world import World
from tests.helpers import check_error, same
from tests.worlds import snapshot

STORE = "store 1 3 1 0 1 11 60 2\n"
LOG = STORE + "hand ann\ncall ann file log\nsettle\ncall ann write log 0 1,2,3\nsettle\n"
WIPED = STORE + "wipe s1\n"
PLAIN = "world a\n" + LOG + "world b\n" + STORE + "world c\n" + WIPED
NO_STRINGS = (None, True, 0, 1, (), ("a",), ["a"], {}, b"a")


def look(desk):
    """All that a desk tells."""
    names = desk.item_names()
    return (desk.lines(), names, desk.promises(), tuple(desk.get_story(name).text for name in names),
            tuple(snapshot(desk.get_world(name)) for name in names))


class DeskCase(unittest.TestCase):
    def check_wrong(self, desk, kind, attributes, call, *args, **more):
        """The call raises this error; all is as before, also what can be undone and done again."""
        before = look(desk)
        check_error(self, kind, attributes, call, *args, **more)
        same(self, look(desk), before)

    def check_bad(self, desk, line, column, call, *args):
        self.check_wrong(desk, BadText, {"line": line, "column": column}, call, *args)


class Files(DeskCase):
    def test_no_items(self):
        for desk in (Desk(), Desk(""), Desk(text="")):
            same(self, look(desk), ("", (), (), (), ()))
            desk.put("")
            same(self, desk.lines(), "")

    def test_items_in_their_order(self):
        desk = Desk(PLAIN)
        same(self, desk.lines(), PLAIN)
        same(self, desk.item_names(), ("a", "b", "c"))
        same(self, (desk.get_story("a").text, desk.get_story("c").text), (LOG, WIPED))
        self.assertIsInstance(desk.get_story("a"), Story)
        self.assertIsInstance(desk.get_world("a"), World)
        same(self, Desk(PLAIN[:-1]).lines(), PLAIN)

    def test_worlds_are_played_anew(self):
        desk = Desk(PLAIN)
        first, second = desk.get_world("b"), desk.get_world("b")
        first.hand("ann")
        same(self, (second.hands(), desk.get_world("b").hands()), ((), ()))

    def test_files_that_are_none(self):
        for text, line, column in (
                ("hand ann\n", 1, 1), ("\n", 1, 1), (" world a\n", 1, 1), ("worlds a\n", 1, 1), ("World a\n", 1, 1),
                (STORE + PLAIN, 1, 1), ("\n" + PLAIN, 1, 1), ("world\n", 1, 2), ("world \n", 1, 2), ("world A\n", 1, 2),
                ("world 1\n", 1, 2), ("world a b\n", 1, 3), ("world A b\n", 1, 2), ("world a \n", 1, 3), ("world  a\n", 1, 2),
                ("world a\n" + STORE + "world a\n" + STORE, 3, 2), ("world a\n" + STORE + "world a x\n" + STORE, 3, 2),
                ("world a\n" + STORE + "world b\nfoo\nworld c c\n", 5, 3), (PLAIN + "world b\n", 13, 2),
                ("world a\nfoo\nworld\n", 3, 2), ("foo\nworld\n", 1, 1), ("world a", 2, 1), ("world a\nworld b\n" + STORE, 2, 1),
                ("world a\n" + STORE + "world b\n", 4, 1), ("world a\n\n", 2, 1), ("world a\nstore 1\n", 2, 3),
                ("world a\n" + STORE + "\n", 3, 1), ("world a\n" + STORE + "give x\n", 3, 2),
                (PLAIN + "world d\n" + STORE + "give 1 2\n", 15, 3), ("world a\n" + STORE + "world b\n" + STORE + "foo", 5, 1),
                ("world a\n" + STORE + "foo\nworld b\nfoo\n", 3, 1)):
            check_error(self, BadText, {"line": line, "column": column}, Desk, text)
            desk = Desk("world z\n" + STORE)
            self.check_bad(desk, line, column, desk.put, text)

    def test_no_strings(self):
        desk = Desk(PLAIN)
        for text in NO_STRINGS:
            check_error(self, BadText, {"line": 0, "column": 0}, Desk, text)
            self.check_bad(desk, 0, 0, desk.put, text)

    def test_errors_of_settings_and_of_deeds(self):
        desk = Desk("world z\n" + STORE)
        for text, kind, attributes in (
                ("world a\nstore 2 3 1 0 1 11 60 2\n", BadNumber, {"what": "servers", "number": 2}),
                ("world a\nstore 1 3 1 0 3 11 60 2\n", BadNumber, {"what": "f", "number": 3}),
                ("world a\n" + STORE + "give 0\n", NoLetter, {"number": 0}),
                ("world a\n" + STORE + "wipe s1\nwipe s2\nnudge x\n", TooMany, {"what": "shelves", "many": 2, "limit": 1}),
                # One item after the other: all errors of the first one are ahead of those of the second one.
                ("world a\n" + STORE + "give 0\nworld b\nfoo\n", NoLetter, {"number": 0}),
                ("world a\nstore 2 3 1 0 1 11 60 2\nworld b\nfoo\n", BadNumber, {"what": "servers", "number": 2}),
                ("world a\n" + STORE + "world b\n" + STORE + "nudge x\n", NoName, {"name": "x"})):
            check_error(self, kind, attributes, Desk, text)
            self.check_wrong(desk, kind, attributes, desk.put, text)

    def test_the_order_of_the_desk(self):
        """With put, items are looked at in the order in which the desk has them."""
        desk = Desk("world a\n" + STORE + "world b\n" + STORE)
        self.check_bad(desk, 5, 1, desk.put, "world b\n" + STORE + "foo\nworld a\nfoo\n")
        self.check_wrong(desk, NoName, {"name": "x"}, desk.put, "world b\n" + STORE + "give 0\nworld a\n" + STORE + "nudge x\n")
        self.check_wrong(desk, NoLetter, {"number": 0}, desk.put, "world c\nfoo\nworld b\n" + STORE + "give 0\n")
        desk.put("world c\n" + WIPED + "world a\n" + LOG + "world d\n" + STORE)
        same(self, desk.lines(), "world a\n" + LOG + "world b\n" + STORE + "world c\n" + WIPED + "world d\n" + STORE)


class Edits(DeskCase):
    def test_put(self):
        desk = Desk(PLAIN)
        desk.put("world b\n" + WIPED)
        same(self, desk.item_names(), ("a", "b", "c"))
        same(self, desk.get_story("b").text, WIPED)
        desk.put("world d\n" + STORE)
        same(self, desk.item_names(), ("a", "b", "c", "d"))

    def test_names_that_are_none(self):
        desk = Desk(PLAIN)
        calls = ((desk.get_story, ()), (desk.get_world, ()), (desk.drop, ()), (desk.rename, ("x",)),
                 (desk.edit, (1, STORE)), (desk.add, (STORE,)))
        for call, rest in calls:
            for name in NO_STRINGS:
                self.check_wrong(desk, BadName, {"name": name}, call, name, *rest)
            for name in ("", "d", "A", "world", "a ", "a\n"):
                self.check_wrong(desk, NoName, {"name": name}, call, name, *rest)

    def test_edit(self):
        desk = Desk(PLAIN)
        desk.edit("a", 5, "call ann write log 0 9\n")
        same(self, desk.get_story("a").text, LOG.replace("1,2,3", "9"))
        desk.edit("a", 5, "call ann write log 0 -\nsettle\ncall ann write log 1 5")
        same(self, desk.get_story("a").text, LOG.replace("write log 0 1,2,3", "write log 0 -\nsettle\ncall ann write log 1 5"))
        desk.edit("a", 8, "settle\ncall ann size log")
        self.assertTrue(desk.get_story("a").text.endswith("settle\ncall ann write log 1 5\nsettle\ncall ann size log\n"))
        desk.edit("c", 1, "store 1 4 1 0 1 11 60 2")
        same(self, desk.get_story("c").text, "store 1 4 1 0 1 11 60 2\nwipe s1\n")
        desk.edit("b", 2, "hand ann\nhand bob\n")
        same(self, desk.get_story("b").text, STORE + "hand ann\nhand bob\n")
        desk.edit("b", 4, "")
        desk.edit("b", 3, "")
        same(self, desk.get_story("b").text, STORE + "hand ann\n")
        desk.edit(name="b", number=3, text="nudge ann")
        same(self, desk.item_names(), ("a", "b", "c"))

    def test_errors_of_edit(self):
        desk = Desk(PLAIN)
        for text in NO_STRINGS:
            self.check_wrong(desk, BadName, {"name": None}, desk.edit, None, 0, text)
            self.check_bad(desk, 0, 0, desk.edit, "d", 0, text)
            self.check_bad(desk, 0, 0, desk.add, "d", text)
            self.check_bad(desk, 0, 0, desk.add, "a", text)
        self.check_wrong(desk, NoName, {"name": "d"}, desk.edit, "d", 0, "world a")
        for number in (0, -1, 8, 100, True, None, "1", (1,), 1.0):
            self.check_wrong(desk, BadNumber, {"what": "line", "number": number}, desk.edit, "a", number, "world a\nfoo\n")
        for number, text, line, column in (
                (1, "world a\n", 1, 1), (2, "foo\nworld a\n", 3, 1), (2, "foo\nworld\nworld\n", 3, 1), (7, "world", 7, 1),
                (6, "settle\nsettle\nworld x y z\n", 8, 1), (1, "", 1, 1), (1, "foo\n", 1, 1), (2, "\n", 2, 1),
                (7, "\n", 7, 1), (3, "worlds a\n", 3, 1), (7, "settle\ngive x\n", 8, 2), (2, "hand ann\nhand ann x\n", 3, 3),
                (1, "store 1 3\n", 1, 4), (1, "settle\n" + STORE, 1, 1)):
            self.check_bad(desk, line, column, desk.edit, "a", number, text)
        self.check_bad(desk, 1, 1, desk.edit, "b", 1, "")
        self.check_wrong(desk, BadNumber, {"what": "servers", "number": 2}, desk.edit, "a", 1, "store 2 3 1 0 1 11 60 2")
        self.check_wrong(desk, NoName, {"name": "ann"}, desk.edit, "a", 2, "")
        self.check_wrong(desk, NoLetter, {"number": 99}, desk.edit, "a", 7, "settle\ngive 99\nnudge x\n")

    def test_add(self):
        desk = Desk(PLAIN)
        desk.add("b", "hand ann")
        desk.add("b", "hand bob\nhand cy\n")
        desk.add(name="b", text="")
        same(self, desk.get_story("b").text, STORE + "hand ann\nhand bob\nhand cy\n")
        self.check_bad(desk, 6, 1, desk.add, "b", "settle\nworld x\n")
        self.check_bad(desk, 5, 1, desk.add, "b", "foo")
        self.check_wrong(desk, NoLetter, {"number": 0}, desk.add, "b", "give 0")

    def test_drop(self):
        desk = Desk(PLAIN)
        for promise in ("a explained", "b explained", "c whole s2", "b like c"):
            desk.keep(promise)
        desk.drop("c")
        same(self, (desk.item_names(), desk.promises()), (("a", "b"), ("a explained", "b explained")))
        desk.drop(name="a")
        same(self, (desk.item_names(), desk.promises()), (("b",), ("b explained",)))
        desk.undo()
        desk.undo()
        same(self, desk.promises(), ("a explained", "b explained", "c whole s2", "b like c"))

    def test_rename(self):
        desk = Desk(PLAIN.replace("world c", "world s1"))
        for promise in ("a explained", "b like b", "b like s1", "b whole s1", "s1 whole s2", "s1 like b"):
            desk.keep(promise)
        desk.rename("s1", "s2")
        same(self, desk.promises(), ("a explained", "b like b", "b like s2", "b whole s1", "s2 whole s2", "s2 like b"))
        desk.rename(name="b", new="reads")
        same(self, desk.item_names(), ("a", "reads", "s2"))
        same(self, desk.promises(), ("a explained", "reads like reads", "reads like s2", "reads whole s1", "s2 whole s2",
                                     "s2 like reads"))
        same(self, desk.lines(), PLAIN.replace("world c", "world s2").replace("world b", "world reads"))
        desk.undo()
        desk.undo()
        same(self, (desk.item_names(), desk.promises()[2]), (("a", "b", "s1"), "b like s1"))

    def test_errors_of_rename(self):
        desk = Desk(PLAIN)
        for new in NO_STRINGS + ("", "A", "1", "a b", "abcdefghijklm", "a\n"):
            for name in ("a", "d", None):
                self.check_wrong(desk, BadName, {"name": new}, desk.rename, name, new)
        for name in NO_STRINGS:
            self.check_wrong(desk, BadName, {"name": name}, desk.rename, name, "b")
        self.check_wrong(desk, NoName, {"name": "d"}, desk.rename, "d", "b")
        for new in ("a", "b", "c"):
            self.check_wrong(desk, TakenName, {"name": new}, desk.rename, "a", new)

    def test_undo_and_redo(self):
        desk = Desk(PLAIN)
        check_error(self, NothingToUndo, {}, desk.undo)
        check_error(self, NothingToRedo, {}, desk.redo)
        states = [look(desk)]
        for edit in (lambda: desk.add("b", "hand ann"), lambda: desk.keep("b explained"), lambda: desk.keep("b explained"),
                     lambda: desk.rename("b", "d"), lambda: desk.drop("c"), lambda: desk.put(""),
                     lambda: desk.put("world c\n" + STORE), lambda: desk.edit("d", 2, ""), lambda: desk.release("d explained"),
                     lambda: desk.attempt(lambda same_desk: None)):
            edit()
            states.append(look(desk))
        for _ in range(2):
            for state in reversed(states[:-1]):
                desk.undo()
                same(self, look(desk), state)
            check_error(self, NothingToUndo, {}, desk.undo)
            for state in states[1:]:
                desk.redo()
                same(self, look(desk), state)
            check_error(self, NothingToRedo, {}, desk.redo)

    def test_an_edit_ends_what_can_be_done_again(self):
        desk = Desk(PLAIN)
        desk.drop("c")
        desk.drop("b")
        desk.undo()
        # An error ends nothing.
        check_error(self, NoName, {"name": "c"}, desk.drop, "c")
        check_error(self, NotKept, {"promise": "a answers 9", "witness": 2}, desk.keep, "a answers 9")
        desk.redo()
        same(self, desk.item_names(), ("a",))
        desk.undo()
        desk.put("")
        check_error(self, NothingToRedo, {}, desk.redo)
        desk.undo()
        desk.undo()
        same(self, desk.item_names(), ("a", "b", "c"))
        desk.redo()
        desk.redo()
        check_error(self, NothingToRedo, {}, desk.redo)


class Promises(DeskCase):
    def check(self, desk, promise, is_kept, witness=None):
        same(self, desk.holds(promise), (is_kept, None if is_kept else witness))
        if is_kept:
            desk.keep(promise)
            same(self, promise in desk.promises(), True)
            desk.undo()
        else:
            self.check_wrong(desk, NotKept, {"promise": promise, "witness": witness}, desk.keep, promise)

    def test_each_promise(self):
        desk = Desk(PLAIN)
        for promise in ("a explained", "b explained", "a reads log 0 1,2,3", "a reads log 000 01,2,000003", "a whole s1",
                        "c whole s2", "a answers 0", "a answers 2", "b answers 0", "a like a", "b like c", "c like b"):
            self.check(desk, promise, True)
        for promise, witness in (
                ("a reads log 0 1,2", (1, 2, 3)), ("a reads log 0 -", (1, 2, 3)), ("a reads log 1 1", None),
                ("a reads log 1 -", None), ("a reads log 999999 -", None), ("a reads / 0 -", None), ("a reads x/y 0 1", None),
                ("b reads log 0 1,2,3", None), ("c whole s1", ("s2", "s3")), ("a answers 3", 2), ("b answers 1", 0),
                ("a answers 999999", 2), ("a like b", None), ("b like a", None)):
            self.check(desk, promise, False, witness)

    def test_rows_without_letters(self):
        desk = Desk("world a\n" + LOG.replace("1,2,3", "-"))
        self.check(desk, "a reads log 0 -", True)
        self.check(desk, "a reads log 0 1", False, ())

    def test_like(self):
        """Equal States and files: also of worlds with other disks, not with other commands."""
        desk = Desk("world a\n" + LOG + "world b\n" + LOG.replace("60 2", "90 1") + "world c\n" + LOG + "crash b1\n"
                    + "world d\n" + LOG.replace("1,2,3", "1,2,4") + "world e\n" + LOG + "call ann list /\nsettle\n")
        for promise, is_kept in (("a like b", True), ("a like c", True), ("c like b", True), ("a like d", False),
                                 ("a like e", False), ("e like e", True)):
            self.check(desk, promise, is_kept)

    def test_wrong_words(self):
        desk = Desk(PLAIN)
        for promise, column in (
                ("", 1), (" ", 1), (" a explained", 1), ("A explained", 1), ("1 explained", 1), ("a", 2), ("a ", 2), ("a\n", 1),
                ("a Explained", 2), ("a explain", 2), ("a explained ", 3), ("a explained\n", 2), ("a  explained", 2),
                ("\na explained", 1), ("d", 2), ("a explained b", 3), ("a reads", 3), ("a reads /x", 3), ("a reads log", 4),
                ("a reads log x", 4), ("a reads log -", 4), ("a reads log 0", 5), ("a reads log 0 ", 5), ("a reads log 0 x", 5),
                ("a reads log 0 1,", 5), ("a reads log 0 1 2", 6), ("a reads log 1000000 1", 4), ("a reads log 0 1\n", 5),
                ("a reads a/b/c/d/e/f/g 0 1", 3), ("a whole", 3), ("a whole 1", 3), ("a whole S1", 3), ("a whole s1 s2", 4),
                ("a answers", 3), ("a answers -1", 3), ("a answers 0000001", 3), ("a answers 1,2", 3), ("a answers 1 2", 4),
                ("a like", 3), ("a like B", 3), ("a like b c", 4), ("d like 1", 3), ("d whole 1", 3)):
            for call in (desk.keep, desk.holds):
                self.check_bad(desk, 1, column, call, promise)

    def test_no_strings(self):
        desk = Desk(PLAIN)
        for promise in NO_STRINGS:
            for call in (desk.keep, desk.holds, desk.release):
                self.check_bad(desk, 0, 0, call, promise)

    def test_names_that_are_none(self):
        desk = Desk(PLAIN)
        for promise, name in (("d explained", "d"), ("d like e", "d"), ("a like e", "e"), ("e like a", "e"), ("d whole s9", "d"),
                              ("a whole s4", "s4"), ("a whole a", "a"), ("a whole b1", "b1"), ("a whole ann", "ann")):
            for call in (desk.keep, desk.holds):
                self.check_wrong(desk, NoName, {"name": name}, call, promise)

    def test_keep_and_release(self):
        desk = Desk(PLAIN)
        desk.keep("b explained")
        desk.keep(promise="a explained")
        desk.keep("b explained")
        same(self, desk.promises(), ("b explained", "a explained"))
        desk.keep("a reads log 0 1,2,3")
        # An equal promise in other words is another text.
        desk.keep("a reads log 00 1,2,3")
        same(self, len(desk.promises()), 4)
        for promise in ("c explained", "", "foo bar", "a reads log 000 1,2,3"):
            self.check_wrong(desk, NoName, {"name": promise}, desk.release, promise)
        desk.release(promise="b explained")
        same(self, desk.promises(), ("a explained", "a reads log 0 1,2,3", "a reads log 00 1,2,3"))
        same(self, (desk.holds(promise="b explained"), desk.broken()), ((True, None), ()))

    def test_broken_edits(self):
        desk = Desk(PLAIN)
        for promise in ("a reads log 0 1,2,3", "a whole s3", "b answers 0", "a answers 2"):
            desk.keep(promise)
        for kind, attributes, call, args in (
                (NotKept, {"promise": "a reads log 0 1,2,3", "witness": (9,)}, desk.edit, ("a", 5, "call ann write log 0 9")),
                (NotKept, {"promise": "a reads log 0 1,2,3", "witness": None}, desk.edit, ("a", 5, "")),
                (NotKept, {"promise": "a whole s3", "witness": ("s1", "s2")}, desk.add, ("a", "wipe s3")),
                (NoName, {"name": "s3"}, desk.edit, ("a", 1, "store 1 2 1 0 1 11 60 2"))):
            self.check_wrong(desk, kind, attributes, call, *args)
        desk.add("a", "wipe s1")
        desk.rename("a", "z")
        self.check_wrong(desk, NotKept, {"promise": "z whole s3", "witness": ("s1", "s2")}, desk.edit, "z", 7, "wipe s3")
        desk.drop("z")
        same(self, desk.promises(), ("b answers 0",))

    def test_the_first_promise_in_the_order_in_which_they_were_made(self):
        desk = Desk(PLAIN)
        desk.keep("a whole s2")
        desk.keep("a answers 1")
        desk.keep("a whole s1")
        text = "world a\n" + STORE + "wipe s2\n"
        self.check_wrong(desk, NotKept, {"promise": "a whole s2", "witness": ("s1", "s3")}, desk.put, text)
        desk.release("a whole s2")
        self.check_wrong(desk, NotKept, {"promise": "a answers 1", "witness": 0}, desk.put, text)
        desk.keep("a whole s2")
        self.check_wrong(desk, NotKept, {"promise": "a answers 1", "witness": 0}, desk.put, text)


class Worlds(DeskCase):
    """What promises tell is always told of the lines that the item has now."""

    def check_reads(self, desk, *letters):
        told = [",".join(map(str, row)) for row in letters]
        for number, row in enumerate(told):
            same(self, desk.holds(f"a reads log {number} {row}"), (True, None))
        same(self, desk.holds(f"a reads log {len(told)} 0"), (False, None))

    def test_behind_errors(self):
        desk = Desk(PLAIN)
        desk.keep("a whole s1")
        cut = "call ann cut log 0\nsettle\n"
        for kind, lines in ((NoName, cut + "nudge x"), (BadText, cut + "nudge"), (NotKept, cut + "wipe s1"),
                            (TooMany, cut + "wipe s1\nwipe s2")):
            for call in (desk.add, lambda name, text: desk.trial(lambda same_desk: same_desk.add(name, text)),
                         lambda name, text: desk.attempt(lambda same_desk: same_desk.add(name, text))):
                if kind is NotKept and call != desk.add:
                    continue
                self.assertRaises(kind, call, "a", lines)
                self.check_reads(desk, (1, 2, 3))
        desk.trial(lambda same_desk: (same_desk.add("a", cut), self.check_reads(same_desk)))
        self.check_reads(desk, (1, 2, 3))

    def test_behind_undo_and_redo(self):
        desk = Desk(PLAIN)
        rows = [(1, 2, 3)]
        for number in range(1, 5):
            desk.add("a", f"call ann write log {number} {number}\nsettle")
            rows.append((number,))
            self.check_reads(desk, *rows)
        for many in (4, 3, 2):
            desk.undo()
            self.check_reads(desk, *rows[:many])
        for many in (3, 4):
            desk.redo()
            self.check_reads(desk, *rows[:many])
        desk.rename("a", "d")
        desk.undo()
        self.check_reads(desk, *rows[:4])
        desk.add("a", "")
        desk.edit("a", 9, "")
        desk.undo()
        desk.edit("a", 5, "call ann write log 0 9")
        self.check_reads(desk, (9,), *rows[1:4])
        desk.undo()
        desk.put("world a\n" + LOG + "call ann write log 0 8\nsettle\n")
        self.check_reads(desk, (8,))
        desk.undo()
        desk.add("a", "call ann cut log 1\nsettle")
        self.check_reads(desk, (1, 2, 3))


class Attempts(DeskCase):
    def test_what_action_gets_and_returns(self):
        desk = Desk(PLAIN)
        for call in (desk.attempt, desk.trial):
            found = []
            same(self, call(found.append), None)
            self.assertIs(found[0], desk)
            thing = object()
            self.assertIs(call(lambda _: thing), thing)
        desk.attempt(action=lambda _: 0)
        desk.trial(action=lambda _: 0)

    def test_an_attempt_is_one_edit(self):
        desk = Desk(PLAIN)
        desk.keep("a explained")

        def action(same_desk):
            same_desk.drop("c")
            same_desk.add("b", "hand ann")
            same_desk.rename("a", "d")
            same_desk.keep("b answers 0")
            return same_desk.item_names()

        before = look(desk)
        same(self, desk.attempt(action), ("d", "b"))
        after = look(desk)
        same(self, desk.promises(), ("d explained", "b answers 0"))
        desk.undo()
        same(self, look(desk), before)
        desk.redo()
        same(self, look(desk), after)
        desk.undo()
        desk.undo()
        same(self, desk.promises(), ())
        check_error(self, NothingToUndo, {}, desk.undo)

    def test_an_attempt_without_an_edit(self):
        desk = Desk(PLAIN)
        desk.drop("c")
        desk.undo()
        desk.attempt(lambda same_desk: same_desk.lines())
        check_error(self, NothingToRedo, {}, desk.redo)
        desk.undo()
        check_error(self, NothingToUndo, {}, desk.undo)

    def test_errors_of_action(self):
        class Odd(BaseException):
            pass

        for error in (KeyError("x"), Odd(), StoreError()):
            for kind in ("attempt", "trial"):
                desk = Desk(PLAIN)
                desk.drop("c")
                desk.drop("b")
                desk.undo()
                before = look(desk)

                def action(same_desk):
                    same_desk.put("world d\n" + STORE)
                    same_desk.keep("d explained")
                    same_desk.undo()
                    raise error

                with self.assertRaises(type(error)) as caught:
                    getattr(desk, kind)(action)
                self.assertIs(caught.exception, error)
                same(self, look(desk), before)
                # Also what can be undone and done again.
                desk.redo()
                same(self, desk.item_names(), ("a",))
                desk.undo()
                desk.undo()
                same(self, desk.item_names(), ("a", "b", "c"))
                check_error(self, NothingToUndo, {}, desk.undo)

    def test_errors_that_action_catches(self):
        desk = Desk(PLAIN)

        def action(same_desk):
            check_error(self, NoName, {"name": "x"}, same_desk.drop, "x")
            check_error(self, BadText, {"line": 1, "column": 1}, same_desk.put, "foo")
            same_desk.drop("a")

        desk.attempt(action)
        same(self, desk.item_names(), ("b", "c"))

    def test_promises_within_an_attempt(self):
        desk = Desk(PLAIN)
        desk.keep("a whole s1")
        desk.keep("a answers 2")
        seen = []

        def action(same_desk):
            same_desk.add("a", "wipe s1")
            seen.append((same_desk.broken(), same_desk.holds("a whole s1")))
            # No NotKept here, but all errors of promises.
            same_desk.keep("a answers 9")
            same_desk.keep("a whole s1")
            check_error(self, BadText, {"line": 1, "column": 2}, same_desk.keep, "a foo")
            check_error(self, NoName, {"name": "x"}, same_desk.keep, "x explained")
            check_error(self, NoName, {"name": "s9"}, same_desk.keep, "a whole s9")
            seen.append((same_desk.promises(), same_desk.broken()))
            same_desk.release("a answers 9")
            same_desk.edit("a", 7, "")
            seen.append(same_desk.broken())
            return 5

        same(self, desk.attempt(action), 5)
        same(self, seen, [
            ((("a whole s1", ("s2", "s3")),), (False, ("s2", "s3"))),
            (("a whole s1", "a answers 2", "a answers 9"), (("a whole s1", ("s2", "s3")), ("a answers 9", 2))), ()])
        same(self, desk.promises(), ("a whole s1", "a answers 2"))

    def test_promises_behind_an_attempt(self):
        for kind, attributes, edits in (
                (NotKept, {"promise": "a whole s1", "witness": ("s2", "s3")}, lambda same_desk: same_desk.add("a", "wipe s1")),
                (NotKept, {"promise": "b answers 9", "witness": 0}, lambda same_desk: same_desk.keep("b answers 9")),
                (NoName, {"name": "s3"}, lambda same_desk: (
                    same_desk.keep("a whole s3"), same_desk.edit("a", 1, "store 1 2 1 0 1 11 60 2")))):
            desk = Desk(PLAIN)
            desk.keep("a whole s1")
            desk.drop("c")
            desk.undo()
            self.check_wrong(desk, kind, attributes, desk.attempt, edits)
            desk.redo()
            same(self, desk.item_names(), ("a", "b"))

    def test_promises_that_can_no_longer_be_asked(self):
        desk = Desk(PLAIN)
        desk.keep("a answers 0")
        desk.keep("a whole s3")
        desk.keep("a whole s2")

        def action(same_desk):
            same_desk.edit("a", 1, "store 1 2 1 0 1 11 60 2")
            same(self, same_desk.holds("a whole s2"), (True, None))
            check_error(self, NoName, {"name": "s3"}, same_desk.holds, "a whole s3")
            check_error(self, NoName, {"name": "s3"}, same_desk.broken)
            same_desk.keep("a answers 7")
            check_error(self, NoName, {"name": "s3"}, same_desk.broken)
            same_desk.release("a whole s3")
            same(self, same_desk.broken(), (("a answers 7", 2),))
            same_desk.release("a answers 7")

        desk.attempt(action)
        same(self, desk.promises(), ("a answers 0", "a whole s2"))

    def test_undo_within(self):
        for kind in ("attempt", "trial"):
            desk = Desk(PLAIN)
            desk.drop("c")
            desk.drop("b")
            desk.undo()

            def action(same_desk):
                check_error(self, NothingToUndo, {}, same_desk.undo)
                check_error(self, NothingToRedo, {}, same_desk.redo)
                same_desk.rename("a", "d")
                same_desk.rename("d", "e")
                same_desk.undo()
                same(self, same_desk.item_names(), ("d", "b"))
                same_desk.undo()
                check_error(self, NothingToUndo, {}, same_desk.undo)
                same_desk.redo()
                same_desk.redo()
                check_error(self, NothingToRedo, {}, same_desk.redo)
                same_desk.undo()

            getattr(desk, kind)(action)
            if kind == "trial":
                same(self, desk.item_names(), ("a", "b"))
                desk.redo()
                same(self, desk.item_names(), ("a",))
            else:
                same(self, desk.item_names(), ("d", "b"))
                check_error(self, NothingToRedo, {}, desk.redo)
                desk.undo()
                same(self, desk.item_names(), ("a", "b"))
                desk.undo()
                same(self, desk.item_names(), ("a", "b", "c"))

    def test_attempts_within_attempts(self):
        desk = Desk(PLAIN)
        desk.keep("a whole s1")

        def inner(same_desk):
            same_desk.add("a", "wipe s1")
            same_desk.drop("c")

        def bad(same_desk):
            same_desk.drop("b")
            raise KeyError

        def outer(same_desk):
            same_desk.add("b", "hand ann")
            # No promise is looked at at the end of an attempt that stands in another one.
            same_desk.attempt(inner)
            same(self, same_desk.item_names(), ("a", "b"))
            self.assertRaises(KeyError, same_desk.attempt, bad)
            same(self, same_desk.item_names(), ("a", "b"))
            same_desk.undo()
            same(self, (same_desk.item_names(), same_desk.broken()), (("a", "b", "c"), ()))
            same_desk.redo()
            same(self, len(same_desk.broken()), 1)
            same_desk.attempt(lambda _: same_desk.edit("a", 7, ""))
            same_desk.undo()
            same_desk.redo()

        before = look(desk)
        desk.attempt(outer)
        same(self, (desk.item_names(), desk.get_story("b").text), (("a", "b"), STORE + "hand ann\n"))
        desk.undo()
        same(self, look(desk), before)

    def test_trials(self):
        desk = Desk(PLAIN)
        desk.keep("a whole s1")
        before = look(desk)

        def action(same_desk):
            same_desk.add("a", "wipe s1")
            same_desk.keep("b answers 9")
            same_desk.attempt(lambda _: same_desk.drop("c"))
            return same_desk.item_names(), same_desk.broken()

        same(self, desk.trial(action), (("a", "b"), (("a whole s1", ("s2", "s3")), ("b answers 9", 0))))
        same(self, look(desk), before)
        # It is no edit: the last edit is still the promise.
        desk.undo()
        same(self, desk.promises(), ())

    def test_trials_within_attempts_and_attempts_within_trials(self):
        desk = Desk(PLAIN)

        def outer(same_desk):
            same_desk.drop("c")
            same(self, same_desk.trial(lambda _: (same_desk.drop("b"), same_desk.item_names())[1]), ("a",))
            same(self, same_desk.item_names(), ("a", "b"))
            self.assertRaises(KeyError, same_desk.trial, lambda _: (same_desk.drop("b"), {}["x"]))
            same(self, same_desk.item_names(), ("a", "b"))
            same_desk.undo()
            same(self, same_desk.item_names(), ("a", "b", "c"))
            same_desk.trial(lambda _: same_desk.put(""))
            same_desk.redo()

        desk.attempt(outer)
        same(self, desk.item_names(), ("a", "b"))

        def trial(same_desk):
            same_desk.attempt(outer_again)
            same(self, same_desk.item_names(), ("a",))
            same_desk.undo()
            return same_desk.item_names()

        def outer_again(same_desk):
            same_desk.drop("b")
            same_desk.keep("a answers 99")

        same(self, desk.trial(trial), ("a", "b"))
        same(self, (desk.item_names(), desk.promises()), (("a", "b"), ()))

    def test_edits_behind_attempts_look_at_promises_again(self):
        desk = Desk(PLAIN)
        desk.keep("a whole s1")
        desk.attempt(lambda _: None)
        desk.trial(lambda _: None)
        for wrong in (lambda _: {}["x"], lambda same_desk: same_desk.drop("x")):
            for call in (desk.attempt, desk.trial):
                self.assertRaises((KeyError, NoName), call, wrong)
        self.check_wrong(desk, NotKept, {"promise": "a whole s1", "witness": ("s2", "s3")}, desk.add, "a", "wipe s1")


class Explained(DeskCase):
    def test_every_world_is_explained(self):
        desk = Desk(PLAIN + "world d\n" + LOG + "call ann write log 0 4\nfall ann\n")
        for name in desk.item_names():
            same(self, desk.holds(f"{name} explained"), (True, None))

    def test_the_witness_is_the_trouble(self):
        """No world breaks its main promise, so the judge is asked in the place of a world that does."""
        trouble = Trouble(4, 0, "done")
        with mock.patch("keptfiles.promises.trouble_of", lambda history, paper: trouble):
            is_kept, witness = Desk(PLAIN).holds("a explained")
        self.assertIs(is_kept, False)
        self.assertIs(witness, trouble)


if __name__ == "__main__":
    unittest.main()
