"""Promises [76], [91]: what stands at the limits answers in reasonable time, also what is read behind each deed."""

import unittest

from keptfiles.desk import Desk
from keptfiles.errors import Settings, TooMany
from keptfiles.judge import explained, paper_of, plain_behind
from keptfiles.meaning import book_of, meaning, pieces_on, same_now, start_of, state_of, whole_shelves
from keptfiles.world import World, settle
from tests.helpers import check_error, same
from tests.test_limits import Timed
from tests.worlds import WorldCase, machine_names

F = ("f",)
LARGE = Settings(7, 8, 2, 1, 1, 101, 4000, 4)
MIDDLE = Settings(3, 5, 2, 1, 1, 101, 4000, 4)


def read_all(world, hand):
    """All that is told of a world."""
    world.letters(), world.history(), world.hands(), world.spoiled(), world.known_by(hand), world.busy(hand)
    for name in machine_names(world.settings):
        world.running(name), world.blocks_of(name), world.waiting_of(name)
    start_of(world), book_of(world), state_of(world), whole_shelves(world), pieces_on(world, (hand, 0))
    paper = paper_of(world)
    files = tuple(pair for pair in plain_behind(world.history(), paper) if pair[1] is not None)
    return meaning(world).files == files


class Worlds(Timed, WorldCase):
    def test_new_worlds(self):
        for _ in range(100):
            same(self, read_all_new(World(LARGE)), (LARGE, (), 8))

    def test_20000_deeds_of_120_hands(self):
        world = World(MIDDLE)
        names = [f"h{number}" for number in range(120)]
        for name in names:
            world.hand(name)
        self.do(world, "h0", "file", F)
        deeds, calls = 121, 0
        while deeds < 20000:
            name = names[calls % 120 if calls < 120 else calls % 3]
            deed = (("write", F, min(calls // 4, 90), (calls % 101, 5)), ("read", F, 0), ("fold",), ("size", F),
                    ("sweep", f"s{calls % 5 + 1}"))[0 if calls % 3 == 0 else calls % 4 + 1]
            world.call(name, deed)
            deeds += 1 + settle(world)
            calls += 1
        self.assertGreater(calls, 400)
        self.check_explained(world)
        same(self, len(world.hands()), 120)

    def test_20000_deeds_of_hands_at_once(self):
        """All letters are given one after the other, with three hands at once, and never one is lost."""
        world = World(MIDDLE)
        names = ("ann", "bob", "zoe")
        for name in names:
            world.hand(name)
        self.do(world, "ann", "file", F)
        calls = 0
        for deeds in range(20000):
            name = names[deeds % 3]
            letters = world.letters()
            if not world.busy(name):
                calls += 1
                world.call(name, (("write", F, 0, (deeds % 101,)), ("read", F, 0), ("sweep", f"s{calls % 5 + 1}"))[calls % 3])
            elif letters:
                world.give(letters[0][0])
            else:
                world.nudge(name)
        self.assertGreater(calls, 200)
        self.check_explained(world)

    def test_what_is_read_behind_each_deed(self):
        for settings, most in ((LARGE, 1000), (MIDDLE, 2000), (Settings(1, 3, 1, 0, 1, 101, 4000, 1), 2000)):
            world = World(settings)
            world.hand("ann")
            self.do(world, "ann", "file", F)
            deeds = calls = 0
            while deeds < most:
                calls += 1
                deed = ("write", F, calls // 3 % 60 if calls > 180 else calls // 3, (calls % 101, 7, 8))
                world.call("ann", deed if calls % 3 == 0 else ("read", F, 0) if calls % 3 == 1 else ("write", F, 0, (1,)))
                while world.busy("ann"):
                    letters = world.letters()
                    world.give(letters[0][0]) if letters else world.nudge("ann")
                    deeds += 1
                    self.assertTrue(read_all(world, "ann"))
            self.assertTrue(explained(world.history(), paper_of(world)))
            self.assertTrue(same_now(world, world))

    def test_a_settling_at_its_limit(self):
        world = World(Settings(1, 1, 1, 0, 0, 13, 9, 1))
        world.hand("ann")
        world.call("ann", ("write", F, 0, (1, 2, 3, 4)))
        check_error(self, TooMany, {"what": "deeds", "many": 20000, "limit": 20000}, settle, world)


def read_all_new(world):
    return world.settings, meaning(world).files, len(whole_shelves(world))


class Desks(Timed):
    def lines(self, many):
        """A story of so many lines that writes again and again."""
        lines = ["store 3 5 2 1 1 101 1000 4", "hand ann", "call ann file log", "settle"]
        while len(lines) < many - 1:
            count = len(lines)
            word = ("write log 0 1,2", "read log 0", "sweep s1", "write log 1 5", "sweep s2")[count // 2 % 5]
            lines += ["call ann " + word, "settle"]
        return lines + ["call ann size log"] * (many - len(lines))

    def test_eight_items_of_300_lines_and_ten_promises(self):
        lines = self.lines(300)
        text = "".join(f"world w{number}\n" + "".join(line + "\n" for line in lines) for number in range(8))
        desk = Desk(text)
        same(self, desk.lines(), text)
        for promise in ("w0 explained", "w7 explained", "w0 reads log 0 1,2", "w1 reads log 1 5", "w2 whole s5",
                        "w3 answers 100", "w4 like w5", "w6 like w7", "w1 like w2", "w5 explained"):
            desk.keep(promise)
        for number in range(8):
            desk.edit(f"w{number}", 2, "hand ann\nhand bob\n")
            desk.edit(f"w{number}", 3, "")
        for number in range(8):
            desk.undo()
        desk.redo()
        desk.attempt(lambda same_desk: [same_desk.add(f"w{number}", "settle") for number in range(8)])
        same(self, (desk.broken(), len(desk.promises())), ((), 10))
        desk.trial(lambda same_desk: same_desk.drop("w0"))

    def test_300_lines_one_after_the_other(self):
        lines = self.lines(300)
        desk = Desk("world a\n" + lines[0] + "\n")
        desk.keep("a explained")
        for line in lines[1:]:
            desk.add("a", line)
        for _ in range(299):
            desk.undo()
        same(self, desk.get_story("a").text, lines[0] + "\n")
        for _ in range(299):
            desk.redo()
        same(self, desk.lines(), "world a\n" + "".join(line + "\n" for line in lines))


if __name__ == "__main__":
    unittest.main()
