"""Promises [65] to [68]: worlds, their deeds and what they tell."""

import unittest

from keptfiles.disk import Disk
from keptfiles.errors import (Asleep, Awake, BadDeed, BadName, BadNumber, Busy, NoLetter, NoName, Settings, StoreError,
                              TakenName, TooMany, server_names, shelf_names)
from keptfiles.hands import Hand
from keptfiles.machine import state_behind
from keptfiles.meaning import state_of
from keptfiles.shelves import Shelf, held, life_on
from keptfiles.synod import BookServer, votes_of
from keptfiles.world import World, settle
from tests.helpers import same, state_tuple
from tests.worlds import NO_LOTS, NO_NAMES, NO_NUMBERS, WorldCase, begun, machine_names, snapshot

A = ("a",)
F = ("f",)


class Beginning(WorldCase):
    def test_new_worlds(self):
        for servers in (1, 3, 5, 7):
            for shelves in range(1, 9):
                settings = Settings(servers, shelves, 1, 0, 0, 11, 20, 2)
                world = World(settings)
                self.assertIs(world.settings, settings)
                for name in server_names(settings):
                    disk = Disk(20)
                    BookServer(name, disk, 2)
                    same(self, world.blocks_of(name), disk.blocks)
                for name in shelf_names(settings):
                    disk = Disk(20)
                    Shelf(name, disk, 2, 0)
                    same(self, world.blocks_of(name), disk.blocks)
                    same(self, (world.life_of(name), life_on(world.blocks_of(name))), (0, 0))
                for name in machine_names(settings):
                    same(self, (world.running(name), world.waiting_of(name)), (True, ()))
                same(self, (world.letters(), world.history(), world.hands(), world.spoiled()), ((), (), (), ()))
                self.check_wrong(world, NoName, {"name": f"b{servers + 1}"}, world.running, f"b{servers + 1}")
                self.check_wrong(world, NoName, {"name": f"s{shelves + 1}"}, world.life_of, f"s{shelves + 1}")

    def test_keywords(self):
        world = World(settings=Settings(1, 1, 1, 0, 0, 2, 20, 1))
        world.hand(name="ann")
        world.call(name="ann", deed=("make", A))
        world.nudge(name="ann")
        world.double(number=0)
        world.lose(number=0)
        world.cut(number=1, steps=1, lot=())
        world.restart(name="b1", steps=0, lot=(0,))
        world.restart(name="b1")
        world.nudge(name="ann")
        world.give(number=world.letters()[-1][0])
        same(self, settle(world=world) > 0, True)
        world.crash(name="s1", lot=())
        for tell in (world.running, world.blocks_of, world.waiting_of):
            tell(name="s1")
        same(self, (world.life_of(name="s1"), world.busy(name="ann"), world.known_by(name="ann")[0]), (0, False, 0))
        world.fall(name="ann")


class Letters(WorldCase):
    def test_numbers_over_rows_of_deeds(self):
        world = begun(Settings(3, 2, 1, 0, 1, 13, 60, 2), ("ann", "bob"))
        world.call("ann", ("make", A))
        asks = tuple(("ann", f"b{number}", "ask", (0, (0, "ann"))) for number in (1, 2, 3))
        same(self, world.letters(), tuple(enumerate(asks)))
        world.call("bob", ("write", F, 0, (1,)))
        puts = tuple(("bob", f"s{number}", "put", (("bob", 0), (1,))) for number in (1, 2))
        same(self, world.letters(), tuple(enumerate(asks + puts)))
        world.give(1)
        yes = ("b2", "ann", "yes", (0, (0, "ann"), None, None))
        same(self, world.letters(), ((0, asks[0]), (2, asks[2]), (3, puts[0]), (4, puts[1]), (5, yes)))
        world.double(3)
        kept = ("s1", "bob", "kept", (("bob", 0), 0))
        same(self, world.letters()[2:], ((3, puts[0]), (4, puts[1]), (5, yes), (6, kept)))
        world.lose(4)
        world.nudge("bob")
        same(self, world.letters()[2:], ((3, puts[0]), (5, yes), (6, kept), (7, puts[0]), (8, puts[1])))
        world.give(3)
        same(self, world.letters()[2:], ((5, yes), (6, kept), (7, puts[0]), (8, puts[1]), (9, kept)))
        # What nobody hears is under way no longer, and nothing gets its number.
        world.crash("b1")
        world.give(0)
        world.nudge("ann")
        same(self, [number for number, _ in world.letters()], [2, 5, 6, 7, 8, 9, 10, 11, 12])

    def test_no_letter(self):
        world = begun()
        for number in NO_NUMBERS + (0, 1):
            for deed in (world.give, world.double, world.lose):
                self.check_wrong(world, NoLetter, {"number": number}, deed, number)
            self.check_wrong(world, NoLetter, {"number": number}, world.cut, number, -1, None)
        world.call("ann", ("make", A))
        world.give(0)
        world.lose(1)
        world.double(2)
        for number in (0, 1, 5, 10 ** 9, True, False, "2", -1, None):
            for deed in (world.give, world.double, world.lose):
                self.check_wrong(world, NoLetter, {"number": number}, deed, number)
        same(self, [number for number, _ in world.letters()], [2, 3, 4])

    def test_targets_that_do_not_run(self):
        world = begun(hands=("ann", "bob"))
        world.call("ann", ("make", A))
        world.give(0)
        world.crash("b2")
        before = world.blocks_of("b2")
        world.double(1)
        same(self, [number for number, _ in world.letters()], [1, 2, 3])
        world.give(1)
        same(self, ([number for number, _ in world.letters()], world.blocks_of("b2")), ([2, 3], before))
        world.fall("ann")
        world.double(3)
        world.give(3)
        same(self, ([number for number, _ in world.letters()], world.history()), ([2], (("call", "ann", ("make", A)),)))
        # A letter of a hand that has fallen is still heard.
        world.give(2)
        same(self, world.letters()[-1][1][:3], ("b3", "ann", "yes"))


class Hands(WorldCase):
    def test_odd_names(self):
        world = begun()
        for name in (None, True, 1, "", "A", "a b", "1a", "a_", "abcdefghijklm", "a\n", ("a",), ["a"], b"a", "\u00e9"):
            self.check_wrong(world, BadName, {"name": name}, world.hand, name)

    def test_taken_names(self):
        world = begun(Settings(3, 2, 1, 0, 1, 13, 60, 2), ("ann", "b4", "s3"))
        for name in ("ann", "b4", "s3", "b1", "b3", "s1", "s2"):
            self.check_wrong(world, TakenName, {"name": name}, world.hand, name)
        world.fall("ann")
        self.check_wrong(world, TakenName, {"name": "ann"}, world.hand, "ann")
        world.hand("abcdefghijkl")
        same(self, world.hands(), ("abcdefghijkl", "b4", "s3"))
        # A hand with a name like that of a machine of other settings is a hand.
        same(self, self.do(world, "s3", "make", A), "done")
        same(self, self.do(world, "b4", "make", A), "there")
        for name in ("s3", "b4"):
            self.check_wrong(world, NoName, {"name": name}, world.blocks_of, name)
            self.check_wrong(world, NoName, {"name": name}, world.crash, name)

    def test_hands_stand_in_the_order_of_their_names(self):
        world = begun(hands=("zoe", "b9", "ann", "a10", "a2"))
        same(self, world.hands(), ("a10", "a2", "ann", "b9", "zoe"))
        world.fall("a2")
        same(self, world.hands(), ("a10", "ann", "b9", "zoe"))

    def test_call_and_its_errors(self):
        world = begun(hands=("ann", "bob"))
        for name in NO_NAMES + ("b1", "s1"):
            self.check_wrong(world, NoName, {"name": name}, world.call, name, None)
            self.check_wrong(world, NoName, {"name": name}, world.nudge, name)
            self.check_wrong(world, NoName, {"name": name}, world.fall, name)
            self.check_wrong(world, NoName, {"name": name}, world.busy, name)
            self.check_wrong(world, NoName, {"name": name}, world.known_by, name)
        for deed in (None, (), ("make",), ("make", "a"), ("write", F, 0, (13,)), ("mend", "s7"), ["fold"]):
            self.check_wrong(world, BadDeed, {"deed": deed}, world.call, "ann", deed)
        world.call("ann", ("make", A))
        same(self, world.history(), (("call", "ann", ("make", A)),))
        same(self, (world.busy("ann"), world.busy("bob")), (True, False))
        for deed in (("make", A), None):
            self.check_wrong(world, Busy, {"name": "ann"}, world.call, "ann", deed)
        world.fall("ann")
        for deed in (("make", A), None):
            self.check_wrong(world, Asleep, {"name": "ann"}, world.call, "ann", deed)
        for call in (world.nudge, world.fall, world.busy, world.known_by):
            self.check_wrong(world, Asleep, {"name": "ann"}, call, "ann")
        same(self, (world.running("ann"), world.running("bob")), (False, True))

    def test_nudge(self):
        world = begun()
        world.nudge("ann")
        same(self, world.letters(), ())
        world.call("ann", ("make", A))
        world.nudge("ann")
        letters = [letter for _, letter in world.letters()]
        same(self, letters[3:], letters[:3])

    def test_a_fallen_hand(self):
        world = begun()
        world.call("ann", ("make", A))
        world.fall("ann")
        same(self, world.hands(), ())
        same(self, settle(world), 0)
        while world.letters():
            world.give(world.letters()[0][0])
        same(self, world.history(), (("call", "ann", ("make", A)),))
        self.check_explained(world)

    def test_hands_are_hands(self):
        """A world serves a hand just as a Hand is served."""
        world = begun()
        hand = Hand("ann", world.settings)
        letters = hand.call(("write", F, 0, (1, 2, 3)))
        world.call("ann", ("write", F, 0, (1, 2, 3)))
        same(self, tuple(letter for _, letter in world.letters()), letters)
        same(self, world.known_by("ann"), (0, ()))


class Cuts(WorldCase):
    def at_ask(self):
        """A world in which the letter 0 is an "ask" to b1: it needs two steps."""
        world = begun()
        world.call("ann", ("make", A))
        return world

    def test_errors(self):
        world = self.at_ask()
        world.give(1)
        world.give(2)
        yes = world.letters()[-1][0]
        same(self, world.letters()[-1][1][1], "ann")
        for steps, lot in ((0, ()), (-1, None)):
            self.check_wrong(world, NoLetter, {"number": 1}, world.cut, 1, steps, lot)
            self.check_wrong(world, NoName, {"name": "ann"}, world.cut, yes, steps, lot)
        for steps in NO_NUMBERS:
            self.check_wrong(world, BadNumber, {"what": "steps", "number": steps}, world.cut, 0, steps, None)
        for lot in NO_LOTS:
            self.check_wrong(world, BadNumber, {"what": "lot", "number": lot}, world.cut, 0, 0, lot)
        world.crash("b1")
        self.check_wrong(world, Asleep, {"name": "b1"}, world.cut, 0, -1, None)
        world.fall("ann")
        self.check_wrong(world, NoName, {"name": "ann"}, world.cut, yes, 0, ())

    def test_fewer_steps_than_hearing_needs(self):
        for steps, lot, is_there in ((0, (), False), (0, (0, 1), False), (1, (), False), (1, (0,), True),
                                     (1, (3, 9), False), (1, [0, 7], True)):
            world = self.at_ask()
            before = world.blocks_of("b1")
            world.cut(0, steps, lot)
            same(self, [number for number, _ in world.letters()], [1, 2])
            same(self, (world.running("b1"), world.waiting_of("b1")), (False, ()))
            same(self, 0 in votes_of(world.blocks_of("b1")), is_there)
            same(self, world.blocks_of("b1") != before, is_there)

    def test_just_as_many_and_more(self):
        for steps in (2, 3, 100):
            for lot in ((), (0, 1, 2)):
                world = self.at_ask()
                world.cut(0, steps, lot)
                same(self, world.running("b1"), False)
                same(self, votes_of(world.blocks_of("b1")), {0: ((0, "ann"), ())})
                same(self, [number for number, _ in world.letters()], [1, 2, 3])
                same(self, world.letters()[-1][1], ("b1", "ann", "yes", (0, (0, "ann"), None, None)))

    def test_the_disk_has_no_fuse_behind(self):
        world = self.at_ask()
        world.cut(0, 1, ())
        world.restart("b1")
        settle(world)
        same(self, world.busy("ann"), False)
        world.nudge("ann")
        same(self, self.do(world, "ann", "make", ("b",)), "done")

    def test_a_hearing_of_no_steps(self):
        world = begun()
        world.call("ann", ("sweep", "s2"))
        world.cut(0, 0, ())
        same(self, world.letters(), ((1, ("s2", "ann", "holds", (0, 0, ()))),))
        same(self, world.running("s2"), False)


class Falls(WorldCase):
    def test_crash_and_its_errors(self):
        world = begun()
        for name in NO_NAMES + ("ann",):
            self.check_wrong(world, NoName, {"name": name}, world.crash, name, None)
        for name in ("b2", "s6"):
            for lot in NO_LOTS:
                self.check_wrong(world, BadNumber, {"what": "lot", "number": lot}, world.crash, name, lot)
            blocks = world.blocks_of(name)
            world.crash(name, (0, 5))
            same(self, (world.running(name), world.blocks_of(name), world.waiting_of(name)), (False, blocks, ()))
            self.check_wrong(world, Asleep, {"name": name}, world.crash, name, None)
        world.crash("b1")
        world.crash("b3", [])

    def test_restart_and_its_errors(self):
        world = begun()
        for name in NO_NAMES + ("ann",):
            self.check_wrong(world, NoName, {"name": name}, world.restart, name, -1, None)
        self.check_wrong(world, Awake, {"name": "b1"}, world.restart, "b1", -1, None)
        world.crash("b1")
        for steps in NO_NUMBERS[1:]:
            self.check_wrong(world, BadNumber, {"what": "steps", "number": steps}, world.restart, "b1", steps, None)
        for lot in NO_LOTS:
            for steps in (None, 0, 5):
                self.check_wrong(world, BadNumber, {"what": "lot", "number": lot}, world.restart, "b1", steps, lot)
        world.restart("b1")
        same(self, world.blocks_of("b1")[0], (0, 0, 2, 1))
        self.check_wrong(world, Awake, {"name": "b1"}, world.restart, "b1")

    def test_restart_with_steps(self):
        for name in ("b1", "s1"):
            for steps, lot, run in ((0, (), 1), (0, (0,), 1), (1, (), 1), (1, (4,), 1), (1, [0], 2), (1, (0, 4), 2)):
                world = begun()
                world.crash(name)
                world.restart(name, steps, lot)
                same(self, (world.running(name), world.waiting_of(name)), (False, ()))
                same(self, world.blocks_of(name)[0], (0, 0, run, 1))
                world.restart(name)
                same(self, world.blocks_of(name)[0], (0, 0, run + 1, 1))
            for steps in (2, 3, None):
                world = begun()
                world.crash(name)
                world.restart(name, steps, (0,))
                same(self, (world.running(name), world.blocks_of(name)[0]), (True, (0, 0, 2, 1)))
                for _ in range(3):
                    same(self, self.do(world, "ann", "size", A), "none")

    def test_restart_of_a_wiped_shelf(self):
        for steps, lot, life in ((0, (), None), (1, (0,), None), (2, (0,), None), (3, (), None), (3, (0,), 1)):
            world = begun()
            world.wipe("s3")
            world.restart("s3", steps, lot)
            same(self, (world.running("s3"), life_on(world.blocks_of("s3"))), (False, life))
            world.restart("s3", 4 if life is None else 2)
            same(self, (world.running("s3"), life_on(world.blocks_of("s3")), world.life_of("s3")), (True, 1, 1))

    def test_a_shelf_keeps_its_pieces(self):
        world = begun()
        self.do(world, "ann", "file", F)
        self.do(world, "ann", "write", F, 0, (1, 2, 3))
        before = held(world.blocks_of("s1"))
        same(self, len(before), 1)
        world.crash("s1")
        world.restart("s1", 1, (0,))
        world.restart("s1")
        same(self, held(world.blocks_of("s1")), before)


class Wipes(WorldCase):
    def test_errors(self):
        world = begun()
        for name in NO_NAMES + ("ann", "b1"):
            self.check_wrong(world, NoName, {"name": name}, world.wipe, name)
        for f in range(4):
            world = begun(Settings(1, 6, 2, 0, f, 13, 100, 2))
            for number in range(1, f + 1):
                world.wipe(f"s{number}")
            for number in range(f + 1, 7):
                self.check_wrong(world, TooMany, {"what": "shelves", "many": f + 1, "limit": f}, world.wipe, f"s{number}")
            # One that is not whole may be wiped again.
            for number in range(1, f + 1):
                world.wipe(f"s{number}")
                same(self, world.life_of(f"s{number}"), 2)

    def test_a_shelf_that_runs_and_one_that_does_not(self):
        world = begun(Settings(1, 6, 2, 0, 2, 13, 100, 2))
        world.crash("s2")
        for name in ("s1", "s2"):
            world.wipe(name)
            same(self, (world.running(name), world.life_of(name)), (False, 1))
            same(self, (world.blocks_of(name), world.waiting_of(name)), ((None,) * 100, ()))
            world.restart(name)
            same(self, (world.running(name), life_on(world.blocks_of(name))), (True, 1))

    def test_mending_makes_room_for_another_wiping(self):
        world = begun()
        world.wipe("s1")
        self.check_wrong(world, TooMany, {"what": "shelves", "many": 2, "limit": 1}, world.wipe, "s2")
        world.restart("s1")
        self.check_wrong(world, TooMany, {"what": "shelves", "many": 2, "limit": 1}, world.wipe, "s2")
        same(self, self.do(world, "ann", "mend", "s1"), "whole")
        world.wipe("s2")
        same(self, (world.life_of("s1"), world.life_of("s2")), (1, 1))

    def test_a_lie_about_a_life_is_impossible(self):
        """A life that only a mending of an elder life told does not make a shelf whole."""
        world = begun()
        world.wipe("s1")
        world.restart("s1")
        world.call("ann", ("mend", "s1"))
        world.give(0)
        world.give(1)
        world.wipe("s1")
        world.restart("s1")
        settle(world)
        same(self, world.history()[-1][2], "whole")
        self.check_wrong(world, TooMany, {"what": "shelves", "many": 2, "limit": 1}, world.wipe, "s2")
        same(self, self.do(world, "ann", "mend", "s1"), "whole")
        world.wipe("s2")


class Tells(WorldCase):
    def test_no_names(self):
        world = begun()
        for name in NO_NAMES:
            for call in (world.running, world.blocks_of, world.waiting_of, world.life_of):
                self.check_wrong(world, NoName, {"name": name}, call, name)
        for call in (world.blocks_of, world.waiting_of, world.life_of):
            self.check_wrong(world, NoName, {"name": "ann"}, call, "ann")
        self.check_wrong(world, NoName, {"name": "b1"}, world.life_of, "b1")

    def test_busy_and_known_by_behind_each_deed(self):
        world = begun(Settings(1, 1, 1, 0, 0, 13, 100, 2))
        world.call("ann", ("make", A))
        command = (("ann", 0), "make", (A,))
        for busy, rows in ((True, ()), (True, ()), (True, ()), (False, (command,))):
            world.give(world.letters()[0][0])
            same(self, (world.busy("ann"), world.known_by("ann")), (busy, (0, rows)))
            same(self, world.letters() == (), not busy)
        world.hand("bob")
        same(self, world.known_by("bob"), (0, ()))
        same(self, self.do(world, "ann", "fold"), "folded")
        same(self, self.do(world, "bob", "size", A), "none")
        start, rows = world.known_by("bob")
        same(self, (start, rows), (2, ((("bob", 0), "size", (A,)),)))
        same(self, world.known_by("ann")[0], 0)

    def test_history(self):
        world = begun(hands=("ann", "bob"))
        self.do(world, "bob", "make", A)
        world.call("ann", ("read", F, 0))
        world.call("bob", ("fold",))
        settle(world)
        same(self, world.history(), (
            ("call", "bob", ("make", A)), ("answer", "bob", "done", 0), ("call", "ann", ("read", F, 0)),
            ("call", "bob", ("fold",)), ("answer", "ann", "none", 1), ("answer", "bob", "folded", 2)))
        same(self, state_tuple(state_of(world)), state_tuple(state_behind(world.settings, world.known_by("bob")[1])))

    def test_telling_changes_nothing(self):
        world = begun()
        world.call("ann", ("write", F, 0, (1, 2)))
        first = snapshot(world)
        same(self, snapshot(world), first)
        told = world.letters(), world.history(), world.blocks_of("s1")
        settle(world)
        same(self, told, (first[0], first[1], first[6][3][1]))

    def test_nothing_waits_between_deeds(self):
        world = begun()
        for deed in (("file", F), ("write", F, 0, (1, 2)), ("fold",), ("mend", "s1"), ("sweep", "s2"), ("scrub", "s3")):
            world.call("ann", deed)
            while world.busy("ann"):
                world.give(world.letters()[0][0])
                for name in machine_names(world.settings):
                    same(self, world.waiting_of(name), ())


class Errors(WorldCase):
    def test_all_errors_are_errors_of_the_store(self):
        world = begun()
        for call, args in ((world.hand, ("",)), (world.give, (0,)), (world.wipe, ("b1",)), (world.restart, ("b1",)),
                           (world.cut, (0, 0, ()))):
            with self.assertRaises(StoreError):
                call(*args)


if __name__ == "__main__":
    unittest.main()
