"""Promise [69]: settle."""

import unittest

from keptfiles.errors import Settings, TooMany
from keptfiles.world import World, settle
from tests.helpers import check_error, same
from tests.worlds import WorldCase, begun

A, F = ("a",), ("f",)
ONE = Settings(1, 1, 1, 0, 0, 13, 100, 2)


class Settles(WorldCase):
    def test_nothing_to_do(self):
        world = World(ONE)
        same(self, settle(world), 0)
        world.hand("ann")
        world.hand("bob")
        same(self, settle(world), 0)
        world.call("bob", ("make", A))
        world.fall("bob")
        same(self, settle(world), 0)
        same(self, len(world.letters()), 1)

    def test_how_many_deeds(self):
        """One server: an "ask", a "yes", a "set" and a "have"."""
        world = begun(ONE)
        world.call("ann", ("make", A))
        same(self, settle(world), 4)
        same(self, settle(world), 0)
        world.call("ann", ("file", F))
        world.lose(4)
        # A nudge more.
        same(self, settle(world), 5)
        # A "put" and a "kept" more; the shelf hears ahead of the server.
        world.call("ann", ("write", F, 0, (1, 2)))
        same(self, settle(world), 6)
        same(self, [event[2:] for event in world.history() if event[0] == "answer"], [
            ("done", 0), ("done", 1), ("done", 2)])

    def test_letters_behind_the_end_of_a_deed_stay_under_way(self):
        world = begun()
        world.call("ann", ("make", A))
        # Three servers: all three asks and two answers, then the sets, then two answers that suffice.
        deeds = settle(world)
        same(self, world.busy("ann"), False)
        left = [letter[2] for _, letter in world.letters()]
        same(self, (deeds, left), (11, ["have"]))
        same(self, settle(world), 0)
        same(self, [letter[2] for _, letter in world.letters()], left)

    def test_the_least_name_first(self):
        world = begun(ONE, ("zoe", "bob", "ann"))
        for name in ("zoe", "bob", "ann"):
            world.call(name, ("list", ()))
        settle(world)
        same(self, [event[1:] for event in world.history()[3:]], [
            (name, ("names", ()), slot) for slot, name in enumerate(("ann", "bob", "zoe"))])

    def test_only_letters_of_the_served_hand(self):
        world = begun(ONE, ("ann", "bob"))
        world.call("bob", ("make", A))
        world.call("ann", ("make", A))
        world.fall("bob")
        world.hand("cy")
        before = world.letters()
        same(self, [letter[0] for _, letter in before], ["bob", "ann"])
        same(self, settle(world), 4)
        same(self, world.letters(), before[:1])
        same(self, self.do(world, "cy", "make", A), "there")
        same(self, world.letters(), before[:1])

    def test_least_numbers_first(self):
        """What was sent ahead is given ahead, also what comes up meanwhile."""
        world = begun(Settings(3, 2, 1, 0, 1, 13, 100, 2))
        other = begun(Settings(3, 2, 1, 0, 1, 13, 100, 2))
        for deed in (("file", F), ("write", F, 0, (1, 2, 3)), ("read", F, 0), ("fold",), ("scrub", "s2")):
            for each in (world, other):
                each.call("ann", deed)
            many = settle(world)
            done = 0
            while other.busy("ann"):
                letters = other.letters()
                if letters:
                    other.give(letters[0][0])
                else:
                    other.nudge("ann")
                done += 1
            # Letters of an elder deed are under way, too: they come first.
            same(self, (many, world.letters(), world.history()), (done, other.letters(), other.history()))

    def test_doubled_letters(self):
        world = begun(ONE)
        world.call("ann", ("make", A))
        world.double(0)
        world.double(0)
        world.double(1)
        # Under way are the "ask", two times "yes", and a "set" that the first "yes" made.
        same(self, [letter[2] for _, letter in world.letters()], ["ask", "yes", "yes", "set"])
        same(self, settle(world), 6)
        same(self, world.history()[-1], ("answer", "ann", "done", 0))
        same(self, world.letters(), ())

    def test_letters_of_others_that_run_into_each_other(self):
        world = begun(Settings(3, 3, 1, 0, 2, 13, 200, 2), ("ann", "bob", "cy"))
        for name in ("cy", "ann", "bob"):
            world.call(name, ("write", F, 0, (1,)))
        for number, _ in world.letters()[:11]:
            world.give(number)
        deeds = settle(world)
        self.assertGreater(deeds, 20)
        same(self, [event[1:3] for event in world.history()[3:]], [
            (name, "none") for name in ("ann", "bob", "cy")])
        self.check_explained(world)

    def test_too_many(self):
        """The only shelf is full: the write can never end."""
        world = begun(Settings(1, 1, 1, 0, 0, 13, 9, 1), ("ann", "bob"))
        world.call("ann", ("write", F, 0, (1, 2, 3, 4)))
        world.call("bob", ("write", F, 0, (1,)))
        check_error(self, TooMany, {"what": "deeds", "many": 20000, "limit": 20000}, settle, world)
        same(self, (world.busy("ann"), world.busy("bob")), (True, True))
        # What was done stays done: "put" and "full", and 6,666 times a nudge, "put" and "full".
        same(self, [(number, letter[0]) for number, letter in world.letters()], [(1, "bob")])
        world.nudge("ann")
        same(self, world.letters()[1][0], 3 + 2 * 6666)
        check_error(self, TooMany, {"what": "deeds", "many": 20000, "limit": 20000}, settle, world)
        world.fall("ann")
        same(self, settle(world) < 20, True)
        same(self, world.history()[-1], ("answer", "bob", "none", 0))

    def test_just_as_many_as_there_may_be(self):
        """Each nudge of this write takes three deeds: a fall of the hand ends settling just in time."""
        world = begun(Settings(1, 1, 1, 0, 0, 13, 9, 1))
        world.call("ann", ("write", F, 0, (1, 2, 3, 4)))
        first = world.letters()[0][0]
        check_error(self, TooMany, {"what": "deeds", "many": 20000, "limit": 20000}, settle, world)
        # Two deeds for the first letter, then 6,666 rounds of three: all 20,000 are done, and no letter is left.
        same(self, (first, world.letters()), (0, ()))
        world.nudge("ann")
        same(self, world.letters()[0][0], 2 + 2 * 6666)


if __name__ == "__main__":
    unittest.main()
