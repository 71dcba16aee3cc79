"""Promises [37], [38], [39]: what a State tells, States as data, and rows of commands."""

import random
import unittest

from keptfiles.errors import BadName, NoName, Settings
from keptfiles.machine import (State, answers_of, life_in, rows_of, standing, start_state, state_behind, state_data,
                               state_from, step)
from tests.helpers import check_error, same, state_tuple
from tests.plain_machine import PlainMachine

SETTINGS = Settings(3, 4, 2, 0, 1, 11, 40, 2)
A, B, C, AB = ("a",), ("b",), ("c",), ("a", "b")
ALL = (("s1", 0), ("s2", 0), ("s3", 0), ("s4", 0))


def commands_of(*pairs, hand="ann"):
    return tuple(((hand, count), word, body) for count, (word, body) in enumerate(pairs))


def commit(path, number, count, hand="ann", size=3, marks=ALL):
    return "commit", (path, number, (hand, count), size, marks)


SOME = commands_of(
    ("make", (B,)), ("file", (A,)), ("file", (("b", "c"),)), commit(A, 0, 7), commit(("b", "c"), 0, 1), commit(A, 1, 4),
    ("life", ("s3", 2)), ("bar", (("bob", 3),)), ("bar", (("ann", 0),)), ("list", ((),)), ("life", ("s2", 1)),
    ("whole", ("s2", 1)), ("size", (A,)), ("what", ()))


class Telling(unittest.TestCase):
    def test_standing(self):
        same(self, standing(start_state(SETTINGS)), ())
        same(self, standing(state_behind(SETTINGS, SOME)), ((("ann", 1), 3), (("ann", 4), 3), (("ann", 7), 3)))
        state = state_behind(SETTINGS, SOME + (
            (("cyd", 0),) + commit(A, 1, 10, "cyd", 0, (("s1", 0), ("s2", 1), ("s4", 0))),
            (("al", 0),) + commit(A, 2, 30, "al", 9, (("s1", 0), ("s2", 1), ("s3", 2))),
            (("al", 1),) + commit(A, 3, 4, "al", 9, (("s1", 0), ("s2", 1), ("s3", 2))),
            (("al", 2), "cut", (A, 3))))
        same(self, standing(state=state), ((("al", 30), 9), (("ann", 1), 3), (("ann", 7), 3), (("cyd", 10), 0)))
        same(self, standing(step(state, (("al", 3), "drop", (A,)))[0]), ((("ann", 1), 3),))

    def test_rows_of(self):
        state = state_behind(SETTINGS, SOME + commands_of(("file", (C,)), hand="bob"))
        same(self, rows_of(state, A), ((("ann", 7), 3), (("ann", 4), 3)))
        same(self, rows_of(path=("b", "c"), state=state), ((("ann", 1), 3),))
        same(self, rows_of(state, C), ())
        for path in ((), B, AB, ("z",), ("a",) * 200, ("b", "c", "c"), ("abcdefghijkl",)):
            self.assertIsNone(rows_of(state, path))

    def test_rows_of_no_tuple_of_names(self):
        state = state_behind(SETTINGS, SOME)
        for path in (None, "a", "", 0, True, ["a"], [], {}, {"a": 1}, ("",), ("A",), ("a", 1), ("a", None), ("a", "b c"),
                     (("a",),), ("abcdefghijklm",), ("1a",), ("a", True), (b"a",), ("a/b",), ("\u00e9",)):
            check_error(self, BadName, {"name": path}, rows_of, state, path)

    def test_life_in(self):
        state = state_behind(SETTINGS, SOME)
        for shelf, expected in (("s1", (0, True)), ("s2", (1, True)), ("s3", (2, False)), ("s4", (0, True))):
            same(self, life_in(state, shelf), expected)
        same(self, life_in(shelf="s1", state=start_state(SETTINGS)), (0, True))

    def test_life_in_of_no_shelf(self):
        for shelf in ("s0", "s5", "s", "", "b1", "ann", "S1", "s01", "s1 ", None, 1, True, ("s1",), ["s1"], {}, b"s1"):
            check_error(self, NoName, {"name": shelf}, life_in, start_state(SETTINGS), shelf)

    def test_errors_change_nothing(self):
        state = state_behind(SETTINGS, SOME)
        before = state_tuple(state)
        self.assertRaises(BadName, rows_of, state, "a")
        self.assertRaises(NoName, life_in, state, "s9")
        same(self, state_tuple(state), before)


def is_data(value):
    if type(value) is tuple:
        return all(map(is_data, value))
    return value is None or type(value) in (int, str)


class Data(unittest.TestCase):
    def check_both_ways(self, state, settings=SETTINGS):
        data = state_data(state)
        self.assertIs(type(data), tuple)
        self.assertTrue(is_data(data), data)
        again = state_from(settings, data)
        self.assertIsInstance(again, State)
        same(self, state_tuple(again), state_tuple(state))
        same(self, state_data(again), data)
        return again

    def test_there_and_back(self):
        for settings in (SETTINGS, Settings(1, 1, 1, 0, 0, 2, 9, 1), Settings(7, 8, 2, 2, 2, 11, 9, 1)):
            self.check_both_ways(start_state(settings), settings)
        for many in range(len(SOME) + 1):
            self.check_both_ways(state_behind(SETTINGS, SOME[:many]))

    def test_by_names(self):
        data = state_data(state=start_state(SETTINGS))
        same(self, state_tuple(state_from(data=data, settings=SETTINGS)), state_tuple(start_state(SETTINGS)))

    def test_true_and_false_come_back(self):
        state = state_behind(SETTINGS, commands_of(("life", ("s1", 1)), ("life", ("s2", 1)), ("whole", ("s2", 1))))
        again = self.check_both_ways(state)
        same(self, again.lives, ((1, False), (1, True), (0, True), (0, True)))

    def test_equal_states_have_equal_data(self):
        first = commands_of(("make", (A,)), ("make", (B,)), ("idle", ()))
        second = commands_of(("make", (B,)), ("make", (A,)), ("idle", ()))
        same(self, state_data(state_behind(SETTINGS, first)), state_data(state_behind(SETTINGS, second)))

    def test_unlike_states_have_unlike_data(self):
        states = [state_behind(SETTINGS, SOME[:many]) for many in range(len(SOME) + 1)]
        states.append(state_behind(SETTINGS, SOME[:-1] + ((("ann", 12), "what", ()),)))
        states.append(state_behind(SETTINGS, SOME[:-1] + ((("bob", 13), "what", ()),)))
        states.append(state_behind(SETTINGS, SOME[:-1] + ((("ann", 13), "idle", ()),)))
        found = [state_data(state) for state in states]
        for at, data in enumerate(found):
            self.assertNotIn(data, found[:at])

    def test_the_state_goes_on_alike(self):
        for many in range(len(SOME) + 1):
            state = state_behind(SETTINGS, SOME[:many])
            again = self.check_both_ways(state)
            for command in SOME[many:]:
                state, answer = step(state, command)
                again, told = step(again, command)
                same(self, told, answer)
                same(self, state_tuple(again), state_tuple(state))


class Commands(unittest.TestCase):
    def test_none(self):
        for commands in ((), []):
            same(self, state_tuple(state_behind(SETTINGS, commands)), state_tuple(start_state(SETTINGS)))
            same(self, answers_of(SETTINGS, commands), ())

    def test_one(self):
        for commands in (SOME[:1], list(SOME[:1])):
            same(self, answers_of(SETTINGS, commands), ("done",))
            same(self, state_tuple(state_behind(SETTINGS, commands)), state_tuple(step(start_state(SETTINGS), SOME[0])[0]))

    def test_many(self):
        answers = ("done", "done", "done", "done", "done", "done", "new", "barred", "barred",
                   ("names", (("a", "file"), ("b", "folder"))), "new", "whole", ("size", 2), "wrong")
        for commands in (SOME, list(SOME)):
            same(self, answers_of(SETTINGS, commands), answers)
            same(self, answers_of(commands=commands, settings=SETTINGS), answers)
            same(self, state_tuple(state_behind(settings=SETTINGS, commands=commands)), (
                3, (((), None), (A, ((("ann", 7), 3), (("ann", 4), 3))), (B, None), (("b", "c"), ((("ann", 1), 3),))),
                (("ann", 1), ("ann", 4), ("ann", 7)), (("ann", 0), ("bob", 3)),
                ((0, True), (1, True), (2, False), (0, True)), 14, (("ann", 13, "wrong", 13),)))

    def test_commands_that_are_passed_stay(self):
        commands = list(SOME)
        state_behind(SETTINGS, commands)
        answers_of(SETTINGS, commands)
        same(self, commands, list(SOME))

    def test_wrong_commands_count(self):
        commands = [(("ann", 0), "", ()), (("bob", 0), "make", [A]), (("ann", 1), "idle", None)]
        same(self, answers_of(SETTINGS, commands), ("wrong",) * 3)
        same(self, state_behind(SETTINGS, commands).last, (("ann", 1, "wrong", 2), ("bob", 0, "wrong", 1)))


def some_path(dice, known):
    if known and dice.randrange(3):
        return dice.choice(known)
    return tuple(dice.choice("abc") for _ in range(dice.choice((0, 1, 1, 1, 2, 2, 3))))


def some_body(dice, state, word, hand):
    """A body; commands of files mostly name one that is there."""
    number = dice.randrange(4)
    files = [path for path, rows in state.tree if rows is not None]
    if word in ("make", "file", "list", "drop"):
        return (some_path(dice, ()),)
    if word == "move":
        return some_path(dice, ()), some_path(dice, ())
    if word == "size":
        return (some_path(dice, files),)
    if word in ("look", "cut"):
        return some_path(dice, files), number
    if word == "bar":
        return ((dice.choice(("ann", "bob")), dice.randrange(30)),)
    if word in ("life", "whole"):
        return "s" + str(dice.randrange(1, 5)), number
    if word == "commit":
        marks = tuple(("s" + str(dice.randrange(1, 5)), dice.choice((0, 0, 0, 1, 2))) for _ in range(dice.randrange(9)))
        writer = hand if dice.randrange(12) else dice.choice(("ann", "bob"))
        write = (writer, dice.randrange(30))
        return some_path(dice, files), dice.randrange(3), write, number, marks + ALL[:dice.randrange(5)]
    return ()


def some_command(dice, state, count):
    word = dice.choice(("make", "make", "file", "file", "list", "move", "move", "drop", "commit", "commit", "commit",
                        "commit", "look", "size", "cut", "bar", "life", "whole", "idle", "other"))
    hand = dice.choice(("ann", "bob", "cyd"))
    body = some_body(dice, state, word, hand)
    if dice.randrange(25) == 0 and body:
        place = dice.randrange(len(body))
        wrong = dice.choice((True, None, -1, "A", ("a", 1), ("ann", True), ((),)))
        body = body[:place] + (wrong,) + body[place + 1:]
    return (hand, count), word, body


class Runs(unittest.TestCase):
    """Rows of commands, held against another machine; the facts of [39]."""

    def check_facts(self, state, before):
        tree = dict(state.tree)
        self.assertEqual(len(tree), len(state.tree))
        self.assertIsNone(tree[()])
        for path in tree:
            self.assertIsNone(tree[path[:-1]])
        writes = [write for write, _ in standing(state)]
        self.assertEqual(len(set(writes)), len(writes))
        self.assertLessEqual(set(writes), set(state.used))
        self.assertFalse(set(state.used) & set(state.barred))
        self.assertLessEqual(set(before.used), set(state.used))
        self.assertLessEqual(set(before.barred), set(state.barred))
        for (life, _), (elder, _) in zip(state.lives, before.lives):
            self.assertGreaterEqual(life, elder)

    def test_many_rows_of_commands(self):
        answers = {}
        for seed in range(60):
            dice = random.Random(seed)
            state, other = start_state(SETTINGS), PlainMachine(SETTINGS)
            commands, told = [], []
            for count in range(120):
                commands.append(some_command(dice, state, count))
                before = state
                state, answer = step(state, commands[-1])
                same(self, answer, other.do(commands[-1]))
                same(self, state_tuple(state), other.told())
                self.check_facts(state, before)
                told.append(answer)
                word = answer if isinstance(answer, str) else answer[0]
                answers[commands[-1][1], word] = answers.get((commands[-1][1], word), 0) + 1
                if dice.randrange(20) == 0:
                    state = state_from(SETTINGS, state_data(state))
            same(self, answers_of(SETTINGS, commands), tuple(told))
            same(self, state_tuple(state_behind(SETTINGS, commands)), state_tuple(state))
        self.assertLessEqual({
            ("move", "within"), ("move", "root"), ("move", "there"), ("move", "folder"), ("move", "done"),
            ("drop", "full"), ("drop", "done"), ("commit", "done"), ("commit", "few"), ("commit", "used"),
            ("commit", "barred"), ("commit", "gap"), ("commit", "wrong"), ("cut", "done"), ("look", "write"),
            ("life", "old"), ("whole", "other"), ("bar", "used"), ("list", "file"), ("other", "wrong")}, set(answers))


if __name__ == "__main__":
    unittest.main()
