"""Promises [83] to [85]: stories."""

import unittest

from keptfiles.errors import (Asleep, BadDeed, BadNumber, BadText, Busy, NoLetter, NoName, Settings, TakenName, TooMany)
from keptfiles.story import Story, played, told
from keptfiles.world import World, settle
from tests.helpers import check_error, same
from tests.worlds import snapshot

STORE = "store 3 6 2 1 1 13 400 3\n"
LINES = (
    ("hand ann", ("hand", "ann")), ("nudge b1", ("nudge", "b1")), ("fall a1b2c3d4e5f6", ("fall", "a1b2c3d4e5f6")),
    ("wipe s1", ("wipe", "s1")), ("give 3", ("give", 3)), ("double 0", ("double", 0)), ("lose 999999", ("lose", 999999)),
    ("give 000007", ("give", 7)), ("give 00", ("give", 0)), ("settle", ("settle",)), ("crash s1", ("crash", "s1", ())),
    ("crash s1 -", ("crash", "s1", ())), ("crash s1 0", ("crash", "s1", (0,))), ("crash b2 1,02,30", ("crash", "b2", (1, 2, 30))),
    ("restart b1", ("restart", "b1", None, ())), ("restart b1 2 -", ("restart", "b1", 2, ())),
    ("restart b1 0 0,5", ("restart", "b1", 0, (0, 5))), ("cut 4 1 0,2", ("cut", 4, 1, (0, 2))), ("cut 0 00 -", ("cut", 0, 0, ())),
    ("call ann make /", ("call", "ann", ("make", ()))), ("call ann make log", ("call", "ann", ("make", ("log",)))),
    ("call ann file a/b2/c", ("call", "ann", ("file", ("a", "b2", "c")))),
    ("call ann list a/b/c/d/e/f", ("call", "ann", ("list", ("a", "b", "c", "d", "e", "f")))),
    ("call ann drop x", ("call", "ann", ("drop", ("x",)))), ("call ann size /", ("call", "ann", ("size", ()))),
    ("call ann move a b/c", ("call", "ann", ("move", ("a",), ("b", "c")))),
    ("call ann read log 7", ("call", "ann", ("read", ("log",), 7))), ("call ann cut log 02", ("call", "ann", ("cut", ("log",), 2))),
    ("call ann write log 0 7,8", ("call", "ann", ("write", ("log",), 0, (7, 8)))),
    ("call ann write log 0 8,7,7,007", ("call", "ann", ("write", ("log",), 0, (8, 7, 7, 7)))),
    ("call ann write log 0 -", ("call", "ann", ("write", ("log",), 0, ()))), ("call ann write / 0 5", ("call", "ann", ("write", (), 0, (5,)))),
    ("call ann mend s1", ("call", "ann", ("mend", "s1"))), ("call ann sweep x", ("call", "ann", ("sweep", "x"))),
    ("call ann scrub ann", ("call", "ann", ("scrub", "ann"))), ("call ann fold", ("call", "ann", ("fold",))),
    ("spoil s1 ann 0 0 5", ("spoil", "s1", ("ann", 0), 0, 5)), ("spoil x y 001 2 3", ("spoil", "x", ("y", 1), 2, 3)))
# Wrong lines, and the number of the first word that is wrong, missing or too much.
WRONG = (
    ("", 1), (" ", 1), ("Hand ann", 1), ("hands ann", 1), ("store 3 6 2 1 1 13 400 3", 1), ("world a", 1), (" hand ann", 1),
    ("answer ann", 1), ("\thand ann", 1), ("hand\tann", 1), ("hand", 2), ("hand ", 2), ("hand  ann", 2), ("hand Ann", 2),
    ("hand abcdefghijklm", 2), ("hand ann bob", 3), ("hand ann ", 3), ("nudge", 2), ("nudge 1", 2), ("nudge a b", 3),
    ("fall", 2), ("fall -", 2), ("wipe", 2), ("wipe s1 0", 3), ("give", 2), ("give x", 2), ("give -1", 2), ("give +1", 2),
    ("give 1000000", 2), ("give 0000001", 2), ("give 1.0", 2), ("give ", 2), ("give 1 2", 3), ("give \u0663", 2),
    ("give 1_0", 2), ("give \u00b2", 2), ("double -", 2), ("double 1,2", 2), ("lose", 2), ("lose a", 2), ("settle 1", 2),
    ("settle ", 2), ("crash", 2), ("crash 1", 2), ("crash s1 ", 3), ("crash s1 x", 3), ("crash s1 1,1", 3),
    ("crash s1 2,1", 3), ("crash s1 01,1", 3), ("crash s1 ,1", 3), ("crash s1 1,", 3), ("crash s1 1,,2", 3),
    ("crash s1 -,1", 3), ("crash s1 --", 3), ("crash s1 1,1000000", 3), ("crash s1 1, 2", 3), ("crash s1 1 2", 4),
    ("crash s1 - -", 4), ("crash S1 x", 2), ("restart", 2), ("restart 1", 2), ("restart b1 2", 4), ("restart b1 x", 3),
    ("restart b1 2 x", 4), ("restart b1 - -", 3), ("restart b1 2 3,2", 4), ("restart b1 2 - 0", 5), ("restart 1 x x", 2),
    ("cut", 2), ("cut x", 2), ("cut 1", 3), ("cut 1 -", 3), ("cut 1 2", 4), ("cut 1 2 x", 4), ("cut 1 2 3,3", 4),
    ("cut 1 2 - -", 5), ("call", 2), ("call ", 2), ("call Ann", 2), ("call Ann foo", 2), ("call ann", 3), ("call ann ", 3),
    ("call ann foo", 3), ("call ann hand x", 3), ("call ann Make /", 3), ("call ann make", 4), ("call ann make ", 4),
    ("call ann make a/", 4), ("call ann make /a", 4), ("call ann make //", 4), ("call ann make a//b", 4),
    ("call ann make a/b/c/d/e/f/g", 4), ("call ann make a/B", 4), ("call ann make a/1", 4), ("call ann make a b", 5),
    ("call ann make /  ", 5), ("call ann file -", 4), ("call ann list", 4), ("call ann drop a/ b", 4), ("call ann size", 4),
    ("call ann move a", 5), ("call ann move a /b", 5), ("call ann move /b a", 4), ("call ann move a b c", 6),
    ("call ann read a", 5), ("call ann read a -", 5), ("call ann read 0 a", 4), ("call ann read a 0 0", 6),
    ("call ann cut a", 5), ("call ann cut a 1,2", 5), ("call ann write a", 5), ("call ann write a 0", 6),
    ("call ann write a 0 ", 6), ("call ann write a 0 7,x", 6), ("call ann write a 0 7,", 6), ("call ann write a 0 1000000", 6),
    ("call ann write a 0 -,-", 6), ("call ann write a x y", 5), ("call ann write a 0 7 8", 7), ("call ann mend", 4),
    ("call ann mend 1", 4), ("call ann mend s1 s2", 5), ("call ann sweep /", 4), ("call ann scrub", 4),
    ("call ann fold x", 4), ("call ann fold ", 4), ("spoil", 2), ("spoil s1", 3), ("spoil s1 0", 3), ("spoil s1 ann", 4),
    ("spoil s1 ann x", 4), ("spoil s1 ann 0", 5), ("spoil s1 ann 0 0", 6), ("spoil s1 ann 0 - 0", 5),
    ("spoil s1 ann 0 0 x", 6), ("spoil s1 ann 0 0 5 ", 7), ("spoil 1 ann 0 0 5", 2), ("hand ann\r", 2), ("settle\r", 1))


def story_of(*lines):
    return Story(STORE + "".join(line + "\n" for line in lines))


class Texts(unittest.TestCase):
    def check_bad(self, text, line, column):
        check_error(self, BadText, {"line": line, "column": column}, Story, text)

    def test_the_first_line(self):
        story = Story("store 5 7 2 1 2 101 60 4")
        same(self, (story.text, story.deeds), ("store 5 7 2 1 2 101 60 4", ()))
        self.assertIsInstance(story.settings, Settings)
        same(self, {name: value for name, value in vars(story.settings).items() if name != "need"}, {
            "servers": 5, "shelves": 7, "k": 2, "e": 1, "f": 2, "prime": 101, "size": 60, "width": 4})
        same(self, Story("store 03 000006 2 01 1 13 0400 3\n").settings.size, 400)

    def test_wrong_first_lines(self):
        for text, column in (
                ("", 1), ("\n", 1), ("\n" + STORE, 1), (" ", 1), ("Store 3 6 2 1 1 13 400 3", 1), ("hand ann", 1),
                ("store", 2), ("store ", 2), ("store 3", 3), ("store 3 6 2 1 1 13 400", 9), ("store 3 6 2 1 1 13 400 ", 9),
                ("store 3 6 2 1 1 13 400 3 ", 10), ("store 3 6 2 1 1 13 400 3 4", 10), ("store x 6", 2), ("store 3  6", 3),
                ("store 3 -6 2 1 1 13 400 3", 3), ("store 3 6 2 1 1 1000000 400 3", 7), ("store 3 6 2 1 1 13 400 x 3", 9)):
            self.check_bad(text, 1, column)

    def test_each_kind_of_line(self):
        for line, deed in LINES:
            for end in ("\n", ""):
                story = Story(STORE + line + end)
                same(self, (story.deeds, story.text), ((deed,), STORE + line + end))
        same(self, story_of(*[line for line, _ in LINES]).deeds, tuple(deed for _, deed in LINES))

    def test_wrong_lines(self):
        for line, column in WRONG:
            self.check_bad(STORE + line + "\n", 2, column)
            self.check_bad(STORE + "settle\nhand ann\n" + line + "\nxx\n", 4, column)
            if line:
                self.check_bad(STORE + line, 2, column)

    def test_line_feeds(self):
        same(self, Story(STORE).deeds, ())
        same(self, Story(STORE[:-1]).deeds, ())
        same(self, Story(STORE + "settle").deeds, (("settle",),))
        self.check_bad(STORE + "\n", 2, 1)
        self.check_bad(STORE + "settle\n\n", 3, 1)
        self.check_bad(STORE + "settle\n\nsettle\n", 3, 1)
        self.check_bad(STORE + "settle\x0bsettle\n", 2, 1)
        self.check_bad(STORE + "settle\n ", 3, 1)

    def test_the_first_wrong_line(self):
        self.check_bad(STORE + "give x\nfoo\n", 2, 2)
        self.check_bad("store 3\nfoo\n", 1, 3)

    def test_no_strings(self):
        for text in (None, True, 0, (), [], ["store"], {}, STORE.encode()):
            self.check_bad(text, 0, 0)

    def test_errors_of_settings(self):
        for text, what, number in (
                ("store 2 6 2 1 1 13 400 3", "servers", 2), ("store 3 9 2 1 1 13 400 3", "shelves", 9),
                ("store 3 6 0 1 1 13 400 3", "k", 0), ("store 3 6 2 3 1 13 400 3", "e", 3),
                ("store 3 6 2 1 3 13 400 3", "f", 3), ("store 3 6 2 1 1 12 400 3", "prime", 12),
                ("store 3 6 2 1 1 13 8 3", "size", 8), ("store 3 6 2 1 1 13 400 17", "width", 17),
                ("store 0 0 0 9 9 0 0 0", "servers", 0)):
            check_error(self, BadNumber, {"what": what, "number": number}, Story, text)
            # The errors of the text come first.
            self.check_bad(text + "\nfoo\n", 2, 1)
            self.check_bad(text + " 1", 1, 10)

    def test_keywords(self):
        story = Story(text=STORE)
        self.assertIsInstance(played(story=story), World)
        same(self, told(story=story), ())


class Played(unittest.TestCase):
    def test_each_deed(self):
        world = World(Settings(3, 6, 2, 1, 1, 13, 400, 3))
        lines = []

        def do(line, deed, *args):
            lines.append(line)
            deed(*args)
            same(self, snapshot(played(story_of(*lines))), snapshot(world))

        do("hand ann", world.hand, "ann")
        do("hand bob", world.hand, "bob")
        do("call ann file log", world.call, "ann", ("file", ("log",)))
        do("settle", settle, world)
        do("call bob write log 0 7,8", world.call, "bob", ("write", ("log",), 0, (7, 8)))
        do("nudge bob", world.nudge, "bob")
        first = world.letters()[-1][0]
        do(f"double {first}", world.double, first)
        do(f"lose {first - 1}", world.lose, first - 1)
        do(f"give {first}", world.give, first)
        do(f"cut {first - 3} 1 -", world.cut, first - 3, 1, ())
        do("settle", settle, world)
        do("crash s2", world.crash, "s2")
        do("spoil s2 bob 0 0 5", world.spoil, "s2", ("bob", 0), 0, 5)
        do("restart s2 1 0", world.restart, "s2", 1, (0,))
        do("restart s2", world.restart, "s2")
        do("wipe s3", world.wipe, "s3")
        do("restart s3 3 -", world.restart, "s3", 3, ())
        do("restart s3 4 0,1", world.restart, "s3", 4, (0, 1))
        do("crash b1 -", world.crash, "b1", ())
        do("call ann fold", world.call, "ann", ("fold",))
        do("fall bob", world.fall, "bob")
        do("settle", settle, world)

    ROWS = ("hand ann", "call ann file log", "settle", "call ann write log 0 7,8", "settle", "crash s2", "restart s2 0 0",
            "restart s2", "crash s2", "spoil s2 ann 0 0 5", "restart s2 2 -", "call ann scrub s2", "settle", "wipe s3",
            "restart s3 3 -", "restart s3 4 0", "call ann mend s3", "settle", "crash b1 -", "restart b1", "call ann fold",
            "settle", "call ann read log 0", "settle", "hand bob", "call bob cut log 1", "fall bob")

    def test_a_long_story(self):
        world = played(story_of(*self.ROWS))
        same(self, [event[1:3] for event in world.history() if event[0] == "answer"], [
            ("ann", "done"), ("ann", "done"), ("ann", (("ann", 0),)), ("ann", "whole"), ("ann", "folded"), ("ann", (7, 8))])
        same(self, (world.hands(), world.running("bob"), world.life_of("s3"), world.spoiled()), (("ann",), False, 1, ()))
        rows = told(story_of(*self.ROWS))
        same(self, rows, tuple("answer ann" if row == "settle" else "ok" for row in self.ROWS))

    def test_a_cut(self):
        rows = ("hand ann", "call ann file log", "cut 0 1 0", "cut 1 0 -", "restart b1 1 0", "restart b1", "restart b2", "settle")
        world = played(story_of(*rows))
        same(self, world.history()[-1], ("answer", "ann", "done", 0))
        same(self, world.blocks_of("b1")[0][2], 3)
        same(self, told(story_of(*rows)), ("ok",) * 7 + ("answer ann",))

    def test_settle_with_several_answers(self):
        rows = ("hand zoe", "hand ann", "hand bob", "call bob make a", "call zoe list /", "call ann read x 0", "settle",
                "settle", "call zoe make b", "settle")
        same(self, told(story_of(*rows)), ("ok",) * 6 + ("answer ann answer bob answer zoe", "ok", "ok", "answer zoe"))

    def test_a_give_that_answers(self):
        one = "store 1 1 1 0 0 13 60 2\nhand ann\ncall ann make a\ngive 0\ngive 1\ngive 2\ngive 3\n"
        same(self, told(Story(one)), ("ok",) * 5 + ("answer ann",))
        same(self, told(Story(one.replace("give 3", "double 3"))), ("ok",) * 5 + ("answer ann",))

    def test_errors_of_deeds(self):
        for line, kind, attributes in (
                ("hand b1", TakenName, {"name": "b1"}), ("nudge bob", NoName, {"name": "bob"}), ("give 0", NoLetter, {"number": 0}),
                ("call ann mend s7", BadDeed, {"deed": ("mend", "s7")}), ("crash b4", NoName, {"name": "b4"}),
                ("call ann write x 0 13", BadDeed, {"deed": ("write", ("x",), 0, (13,))}),
                ("spoil s9 x 0 0 0", NoName, {"name": "s9"}), ("hand ann", TakenName, {"name": "ann"})):
            for at in (1, 3, 4):
                rows = ["hand ann", "call ann make x", "settle", "crash b2"]
                rows.insert(at, line)
                story = story_of(*rows)
                check_error(self, kind, attributes, played, story)
                expected = ["answer ann" if row == "settle" else "ok" for row in rows[:at]]
                same(self, told(story), tuple(expected + ["error"]))

    def test_errors_at_the_first_a_middle_and_the_last_deed(self):
        same(self, told(story_of("settle", "nudge x")), ("ok", "error"))
        same(self, told(story_of("wipe b1", "settle")), ("error",))
        same(self, told(story_of("hand ann", "call ann make a", "call ann make b", "settle")), ("ok", "ok", "error"))
        check_error(self, Busy, {"name": "ann"}, played, story_of("hand ann", "call ann make a", "call ann make b"))
        check_error(self, Asleep, {"name": "ann"}, played, story_of("hand ann", "fall ann", "nudge ann"))
        check_error(self, TooMany, {"what": "shelves", "many": 2, "limit": 1}, played, story_of("wipe s1", "wipe s2"))

    def test_a_settling_that_never_ends(self):
        text = "store 1 1 1 0 0 13 9 1\nhand ann\ncall ann write f 0 1,2,3,4\nsettle\nhand bob\n"
        same(self, told(Story(text)), ("ok", "ok", "error"))
        check_error(self, TooMany, {"what": "deeds", "many": 20000, "limit": 20000}, played, Story(text))

    def test_a_story_stays_as_it_is(self):
        story = story_of(*self.ROWS)
        first, second = played(story), played(story)
        same(self, snapshot(first), snapshot(second))
        first.hand("zoe")
        same(self, (second.hands(), story.text), (("ann",), STORE + "".join(row + "\n" for row in self.ROWS)))


if __name__ == "__main__":
    unittest.main()
