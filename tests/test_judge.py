"""Promises [77] to [82]: plain trees, histories, papers and what is wrong with them."""

import random
import unittest

from keptfiles.errors import BadDeed, Settings
from keptfiles.judge import Trouble, explained, paper_of, plain_behind, plain_start, plain_step, trouble_of
from tests.helpers import check_error, same
from tests.test_hands import WRONG
from tests.worlds import WorldCase, begun

A, B, AB, F, G = ("a",), ("b",), ("a", "b"), ("f",), ("g",)
START = (((), None),)


def tree_of(*pairs):
    return tuple(sorted(START + pairs, key=lambda pair: pair[0]))


class Steps(unittest.TestCase):
    TREE = tree_of((A, None), (AB, ((1, 2), (), (3,))), (F, ()))

    def check(self, deed, answer, tree=None):
        """The answer, and the tree behind; None for the same one."""
        same(self, plain_step(self.TREE, deed), (self.TREE if tree is None else tree, answer))

    def test_start(self):
        same(self, plain_start(), START)

    def test_make_and_file(self):
        rows = self.TREE[1:]
        self.check(("make", A), "there")
        self.check(("make", ()), "there")
        self.check(("file", F), "there")
        self.check(("make", ("f", "x")), "folder")
        self.check(("file", ("z", "x")), "folder")
        self.check(("make", B), "done", tree_of((B, None), *rows))
        self.check(("file", ("a", "a")), "done", tree_of((("a", "a"), ()), *rows))

    def test_list_and_size(self):
        self.check(("list", B), "none")
        self.check(("list", F), "file")
        self.check(("list", ()), ("names", (("a", "folder"), ("f", "file"))))
        self.check(("list", A), ("names", (("b", "file"),)))
        self.check(("size", A), "none")
        self.check(("size", B), "none")
        self.check(("size", AB), ("size", 3))
        self.check(("size", F), ("size", 0))

    def test_move_and_drop(self):
        for path, to, answer in ((B, F, "none"), ((), B, "root"), (A, ("a", "c"), "within"), (A, F, "there"),
                                 (A, A, "there"), (A, ("f", "x"), "folder"), (A, ("z", "x"), "folder")):
            self.check(("move", path, to), answer)
        self.check(("move", A, G), "done", tree_of((F, ()), (G, None), (("g", "b"), ((1, 2), (), (3,)))))
        for path, answer in ((B, "none"), ((), "root"), (A, "full")):
            self.check(("drop", path), answer)
        self.check(("drop", AB), "done", tree_of((A, None), (F, ())))

    def test_write_read_and_cut(self):
        for word, rest in (("write", ((5,),)), ("read", ())):
            for path in (A, B, ()):
                self.check((word, path, 0) + rest, "none")
        self.check(("write", AB, 4, (5,)), "gap")
        self.check(("write", F, 1, ()), "gap")
        self.check(("write", AB, 3, (10 ** 9,)), "done", tree_of((A, None), (AB, ((1, 2), (), (3,), (10 ** 9,))), (F, ())))
        self.check(("write", AB, 0, ()), "done", tree_of((A, None), (AB, ((), (), (3,))), (F, ())))
        self.check(("read", AB, 3), "gap")
        self.check(("read", F, 0), "gap")
        for number, letters in enumerate(((1, 2), (), (3,))):
            self.check(("read", AB, number), letters)
        self.check(("cut", A, 0), "none")
        self.check(("cut", B, 0), "none")
        self.check(("cut", AB, 4), "gap")
        self.check(("cut", AB, 3), "done")
        self.check(("cut", AB, 1), "done", tree_of((A, None), (AB, ((1, 2),)), (F, ())))
        self.check(("cut", F, 0), "done")

    def test_aside(self):
        for deed in (("mend", "s1"), ("sweep", "anyname"), ("scrub", "b7"), ("fold",)):
            self.check(deed, "aside")

    def test_what_is_no_deed(self):
        right = (("write", A, 0, (13,)), ("write", A, 0, (0, 99)), ("mend", "s0"), ("mend", "s7"), ("mend", "b1"),
                 ("mend", "ann"), ("scrub", "s01"))
        for deed in right:
            plain_step(self.TREE, deed)
        for deed in WRONG + (("mend", ""), ("sweep", "abcdefghijklm"), ("scrub", "s 1"), ("aside",)):
            if deed not in right:
                check_error(self, BadDeed, {"deed": deed}, plain_step, self.TREE, deed)

    def test_keywords(self):
        same(self, plain_step(tree=START, deed=("list", ())), (START, ("names", ())))


def call(hand, *deed):
    return "call", hand, deed


def answer(hand, told, slot):
    return "answer", hand, told, slot


GOOD = (call("ann", "file", F), call("bob", "write", F, 0, (1, 2)), answer("ann", "done", 3), call("ann", "fold"),
        answer("bob", "done", 4), call("bob", "read", F, 0), answer("ann", "folded", 9), call("ann", "size", F),
        answer("bob", (1, 2), 7), call("cy", "make", A))
PAPER = ((0, 3), (1, 4), (3, 7))


class Papers(unittest.TestCase):
    def check(self, rule, place, due, paper, history=GOOD):
        trouble = trouble_of(history, paper)
        if rule is None:
            self.assertIsNone(trouble)
        else:
            self.assertIs(type(trouble), Trouble)
            same(self, (trouble.rule, trouble.place, trouble.due), (rule, place, due))
        self.assertIs(explained(history, paper), rule is None)

    def test_what_explains(self):
        self.check(None, None, None, PAPER)
        self.check(None, None, None, (), ())
        # Calls without an answer may be there, in slots that nobody else has.
        self.check(None, None, None, PAPER + ((4, 100),))
        self.check(None, None, None, PAPER + ((5, 8),))
        self.check(None, None, None, PAPER + ((4, 10), (5, 8)))
        self.check(None, None, None, (), (call("ann", "mend", "s1"), answer("ann", "whole", 5)))

    def test_rule_1(self):
        for place, paper in (
                (3, PAPER + ((6, 10),)), (3, PAPER + ((10 ** 9, 10),)), (0, ((-1, 3),)), (2, ((0, 3), (1, 4), (1, 5))),
                (2, ((0, 3), (3, 7), (1, 4))), (1, ((0, 3), (0, 4))), (2, ((0, 3), (1, 4), (2, 9))),
                (2, ((0, 3), (1, 4), (3, 4))), (1, ((0, 3), (1, 3))), (0, ((0, -1),)), (3, PAPER + ((4, -2),)),
                (2, ((0, 3), (1, 4), (3, 3), (4, 3)))):
            self.check(1, place, None, paper)

    def test_rule_2(self):
        self.check(2, 0, 3, ())
        self.check(2, 0, 3, PAPER[1:])
        self.check(2, 1, 4, ((0, 3), (3, 7)))
        self.check(2, 3, 7, PAPER[:2])
        self.check(2, 3, 7, PAPER[:2] + ((3, 8),))
        self.check(2, 0, 3, ((0, 5), (1, 4), (3, 7)))

    def test_rule_3(self):
        # "read" of bob, call 3, was called behind both first answers; "size" of ann behind them, too.
        late = (call("ann", "file", F), answer("ann", "done", 5), call("bob", "size", F), answer("bob", ("size", 0), 4))
        self.check(3, 1, 5, ((0, 5), (1, 4)), late)
        self.check(3, 4, 4, PAPER + ((4, 1),))
        self.check(3, 4, 4, PAPER + ((4, 2), (5, 1)))
        self.check(3, 5, 7, PAPER + ((5, 6),))
        # The greatest slot of those ahead is due, whichever hand answered, whichever came first.
        rows = (call("ann", "file", F), call("bob", "file", G), answer("ann", "done", 9), answer("bob", "done", 2),
                call("cy", "list", ()))
        self.check(3, 2, 9, ((0, 9), (1, 2), (2, 5)), rows)
        self.check(3, 2, 9, ((0, 9), (1, 2), (2, 1)), rows)
        self.check(None, None, None, ((0, 9), (1, 2), (2, 10)), rows)
        # Answers of deeds aside hold nobody back.
        aside = (call("ann", "mend", "s1"), answer("ann", "whole", 8), call("bob", "list", ()),
                 answer("bob", ("names", ()), 2))
        self.check(None, None, None, ((1, 2),), aside)

    def test_rule_4(self):
        wrong = GOOD[:8] + (answer("bob", (1, 3), 7),) + GOOD[9:]
        self.check(4, 3, (1, 2), PAPER, wrong)
        for told in ("gap", None, [1, 2], (1, 2, 3), "aside"):
            self.check(4, 3, (1, 2), PAPER, GOOD[:8] + (answer("bob", told, 7),) + GOOD[9:])
        # In the order of the slots the first wrong one is call 1, though call 0 is wrong, too.
        rows = (call("ann", "size", F), call("bob", "file", F), answer("ann", ("size", 1), 8), answer("bob", "there", 3))
        self.check(4, 1, "done", ((0, 8), (1, 3)), rows)
        right = rows[:3] + (answer("bob", "done", 3),)
        self.check(4, 0, ("size", 0), ((0, 8), (1, 3)), right)
        # A call without an answer takes part: it makes the answer of another one wrong, or right.
        rows = (call("cy", "write", F, 0, (5,)), call("ann", "file", F), answer("ann", "done", 0),
                call("ann", "read", F, 0), answer("ann", (5,), 2))
        self.check(4, 2, "gap", ((1, 0), (2, 2)), rows)
        self.check(None, None, None, ((0, 1), (1, 0), (2, 2)), rows)
        self.check(4, 2, "gap", ((0, 3), (1, 0), (2, 2)), rows)

    def test_two_rules_at_once(self):
        wrong = GOOD[:8] + (answer("bob", "none", 7),) + GOOD[9:]
        self.check(1, 3, None, PAPER[:2] + ((3, 8), (6, 0)), wrong)
        self.check(2, 3, 7, PAPER[:2] + ((3, 8),), wrong)
        self.check(2, 3, 7, PAPER[:2] + ((4, 1),), wrong)
        self.check(3, 4, 4, PAPER + ((4, 1),), wrong)
        self.check(4, 3, (1, 2), PAPER + ((4, 8),), wrong)

    def test_what_is_no_history(self):
        for history in (
                None, [], list(GOOD), "call", True, (None,), ((),), (("call",),), (["call", "ann", ("fold",)],),
                (("call", "ann"),), (("call", "ann", ("fold",), 1),), (("Call", "ann", ("fold",)),),
                (("call", "Ann", ("fold",)),), (("call", 1, ("fold",)),), (("call", "ann", ("fold", 1)),),
                (("call", "ann", ["fold"]),), (("call", "ann", ("make", A, 1)),), (("call", "ann", ("cut", A, True)),),
                (answer("ann", "done", 0),), GOOD[:1] + (call("ann", "fold"),),
                GOOD[:1] + (answer("bob", "done", 0),), GOOD[:3] + (answer("ann", "done", 4),),
                GOOD[:1] + (("answer", "ann", "done"),), GOOD[:1] + (("answer", "ann", "done", -1),),
                GOOD[:1] + (("answer", "ann", "done", True),), GOOD[:1] + (("answer", "ann", "done", "0"),),
                GOOD[:1] + (("answer", "ann", "done", 0, 0),), GOOD[:1] + (("answer", "", "done", 0),),
                GOOD + (None,), GOOD + ((1, 2, 3),), ((["call"], "ann", ("fold",)),), (("call", ["ann"], ("fold",)),)):
            for paper in (PAPER, None):
                for judge in (trouble_of, explained, plain_behind):
                    check_error(self, BadDeed, {"deed": history}, judge, history, paper)

    def test_what_is_no_paper(self):
        for paper in (None, [], list(PAPER), True, "", ((0,),), ((0, 3, 0),), ([0, 3],), ((0, True),), ((False, 3),),
                      ((0, None),), (("0", 3),), PAPER + (None,), PAPER + (4,), ((0, (3,)),)):
            for judge in (trouble_of, explained, plain_behind):
                check_error(self, BadDeed, {"deed": paper}, judge, GOOD, paper)

    def test_answers_are_anything(self):
        for told in (None, [1], {}, "", -1, 5, ("x", [2])):
            history = (call("ann", "mend", "s1"), answer("ann", told, 0))
            self.check(None, None, None, (), history)

    def test_attributes_and_keywords(self):
        trouble = Trouble(1, 2, (3,))
        same(self, (trouble.rule, trouble.place, trouble.due), (1, 2, (3,)))
        self.assertIsNone(trouble_of(history=GOOD, paper=PAPER))
        self.assertIs(explained(history=GOOD, paper=PAPER), True)
        plain_behind(history=GOOD, paper=PAPER)

    def test_plain_behind(self):
        same(self, plain_behind((), ()), START)
        same(self, plain_behind(GOOD, ()), START)
        same(self, plain_behind(GOOD, PAPER), tree_of((F, ((1, 2),))))
        same(self, plain_behind(GOOD, PAPER + ((5, 100),)), tree_of((A, None), (F, ((1, 2),))))
        # In the order of the slots, whatever was answered.
        same(self, plain_behind(GOOD, ((0, 5), (1, 4))), tree_of((F, ())))


class Drawn(unittest.TestCase):
    """Drawn histories and papers, held against the rules as the document tells them, pair by pair."""

    DEEDS = (("file", F), ("write", F, 0, (1,)), ("write", F, 1, ()), ("read", F, 0), ("size", F), ("drop", F), ("fold",),
             ("mend", "s1"), ("list", ()), ("cut", F, 0))

    def drawn_history(self, dice):
        history, waits, slots = [], {}, list(range(12))
        dice.shuffle(slots)
        for _ in range(dice.randrange(12)):
            hand = dice.choice(("ann", "bob", "cy"))
            if hand in waits:
                told = plain_step(tree_of((F, ((1,),))), waits.pop(hand))[1]
                history.append(answer(hand, told, slots.pop()))
            else:
                waits[hand] = dice.choice(self.DEEDS)
                history.append(("call", hand, waits[hand]))
        return tuple(history)

    def rows(self, history):
        """Of each call: the deed, where it stands, where its answer does, and the answer and its slot."""
        rows, last = [], {}
        for at, event in enumerate(history):
            if event[0] == "call":
                last[event[1]] = len(rows)
                rows.append([event[2], at, None, None, None])
            else:
                rows[last[event[1]]][2:] = [at, event[2], event[3]]
        return rows

    def trouble(self, history, paper):
        rows = self.rows(history)
        aside = [row[0][0] in ("mend", "scrub", "sweep", "fold") for row in rows]
        for place, (number, slot) in enumerate(paper):
            ahead = paper[:place]
            if not 0 <= number < len(rows) or aside[number] or any(number <= other for other, _ in ahead) or (
                    slot < 0 or slot in [other for _, other in ahead]):
                return 1, place, None
        slots = dict(paper)
        for number, row in enumerate(rows):
            if row[2] is not None and not aside[number] and slots.get(number) != row[4]:
                return 2, number, row[4]
        for number, row in enumerate(rows):
            late = [slots[other] for other in slots if number in slots and rows[other][2] is not None
                    and rows[other][2] < row[1] and slots[other] >= slots[number]]
            if late:
                return 3, number, max(late)
        tree = START
        for number in sorted(slots, key=lambda each: slots[each]):
            tree, told = plain_step(tree, rows[number][0])
            if rows[number][2] is not None and rows[number][3] != told:
                return 4, number, told
        return None

    def drawn_paper(self, dice, history):
        rows = self.rows(history)
        paper = []
        for number, row in enumerate(rows):
            is_aside = row[0][0] in ("mend", "fold")
            if row[2] is not None and (not is_aside or dice.randrange(20) == 0):
                paper.append((number, row[4]))
            elif not is_aside and dice.randrange(2):
                paper.append((number, dice.randrange(30)))
        if paper and dice.randrange(3) == 0:
            at = dice.randrange(len(paper))
            paper[at:at + 1] = dice.choice(([], [(paper[at][0], dice.randrange(-1, 14))], [paper[at]] * 2,
                                            [(dice.randrange(-1, 8), paper[at][1])]))
        return tuple(paper)

    def test_drawn(self):
        dice = random.Random(7)
        seen = {}
        for _ in range(20000):
            history = self.drawn_history(dice)
            paper = self.drawn_paper(dice, history)
            expected = self.trouble(history, paper)
            found = trouble_of(history, paper)
            same(self, found and (found.rule, found.place, found.due), expected)
            seen[expected and expected[0]] = seen.get(expected and expected[0], 0) + 1
        for rule in (None, 1, 2, 3, 4):
            self.assertGreater(seen[rule], 200, rule)


class PapersOfWorlds(WorldCase):
    def test_answered_calls(self):
        world = begun(hands=("ann", "bob"))
        same(self, paper_of(world), ())
        self.do(world, "bob", "file", F)
        self.do(world, "ann", "fold")
        self.do(world, "ann", "write", F, 0, (1, 2))
        self.do(world, "ann", "mend", "s1")
        self.do(world, "bob", "read", F, 1)
        same(self, paper_of(world), ((0, 0), (2, 2), (4, 5)))
        self.check_explained(world)
        same(self, plain_behind(world.history(), paper_of(world)), tree_of((F, ((1, 2),))))

    def given_up_to(self, world, word, many):
        """So many letters with this word are given, and all ahead of them."""
        while many:
            number, letter = world.letters()[0]
            many -= letter[2] == word
            world.give(number)

    def test_calls_without_an_answer(self):
        """A call counts as soon as its command is chosen, though its hand never hears of it."""
        one = Settings(1, 3, 1, 0, 1, 13, 200, 2)
        for deed, many in ((("make", A), 1), (("write", F, 0, (5,)), 1), (("drop", F), 1)):
            world = begun(one, ("ann", "bob"))
            self.do(world, "bob", "file", F)
            world.call("ann", deed)
            while [letter[2] for _, letter in world.letters()][:1] != ["set"]:
                same(self, paper_of(world), ((0, 0),))
                if not world.letters():
                    world.nudge("ann")
                world.give(world.letters()[0][0])
            # Its first "set" may bring what bob had there.
            while len(paper_of(world)) == 1:
                if not world.letters():
                    world.nudge("ann")
                world.give(world.letters()[0][0])
            same(self, paper_of(world), ((0, 0), (1, 1)))
            world.fall("ann")
            same(self, paper_of(world), ((0, 0), (1, 1)))
            same(self, self.do(world, "bob", "list", ()), plain_step(plain_behind(world.history(), paper_of(world)), (
                "list", ()))[1])
            same(self, paper_of(world), ((0, 0), (1, 1), (2, 2)))
            self.check_explained(world)

    def test_what_is_not_done_has_no_pair(self):
        """Reads, lists, and what was answered something else than "done", say nothing of the tree."""
        one = Settings(1, 3, 1, 0, 1, 13, 200, 2)
        for deed in (("list", ()), ("read", F, 0), ("make", F), ("write", F, 3, ()), ("mend", "s1"), ("fold",)):
            world = begun(one, ("ann", "bob"))
            self.do(world, "bob", "file", F)
            self.do(world, "bob", "write", F, 0, (1,))
            world.call("ann", deed)
            for _ in range(60):
                if not world.letters():
                    world.nudge("ann")
                number, letter = world.letters()[0]
                # ann never hears of its own commands.
                if letter[2] == "have" and world.known_by("ann")[1][1:]:
                    world.lose(number)
                else:
                    world.give(number)
            same(self, (world.busy("ann"), paper_of(world)), (True, ((0, 0), (1, 1))))
            self.check_explained(world)

    def test_a_slot_of_an_earlier_answer(self):
        """Behind an answer "done" a new call has no slot yet; last still tells the elder one."""
        world = begun()
        self.do(world, "ann", "make", A)
        world.call("ann", ("make", B))
        same(self, paper_of(world), ((0, 0),))
        for number, _ in world.letters()[:2]:
            world.give(number)
        same(self, paper_of(world), ((0, 0),))

    def test_a_life_that_was_said_is_no_done(self):
        world = begun(Settings(1, 2, 1, 0, 1, 13, 200, 2), ("ann", "bob"))
        self.do(world, "bob", "file", F)
        world.wipe("s1")
        world.restart("s1")
        world.call("ann", ("write", F, 0, (1,)))
        while world.letters() and not any(row[1] == "life" for row in world.known_by("ann")[1]):
            world.give(world.letters()[0][0])
        same(self, paper_of(world), ((0, 0),))
        self.check_explained(world)


if __name__ == "__main__":
    unittest.main()
