"""Promises [40], [57], [63], [64], [74], [75], [82]: drawn runs over worlds of all kinds of settings."""

import unittest

from keptfiles.errors import Settings
from keptfiles.shelves import held
from keptfiles.world import World, settle
from tests.drawn import Run
from tests.helpers import same
from tests.worlds import WorldCase, all_whole, files_now

WORDS = ("make", "file", "list", "move", "drop", "cut", "size", "write", "read", "fold", "mend", "scrub", "sweep")
A, F = ("a",), ("f",)


class Runs(unittest.TestCase):
    def run_one(self, seed, deeds, often, sizes):
        run = Run(self, seed, sizes)
        for number in range(deeds):
            run.some()
            run.look()
            if number % often == 0:
                run.look_whole()
        run.look_whole()
        return run

    def answers(self, runs):
        """How often each word was answered."""
        many = {word: 0 for word in WORDS}
        for run in runs:
            words = {}
            for event in run.world.history():
                if event[0] == "call":
                    words[event[1]] = event[2][0]
                else:
                    many[words[event[1]]] += 1
        return many

    def test_runs_that_end_with_mending_sweeping_and_scrubbing(self):
        runs = []
        for seed in range(45):
            with self.subTest(seed=seed):
                run = self.run_one(seed, 700, 70, (1000,))
                runs.append(run)
                run.finish()
        for word, many in self.answers(runs).items():
            self.assertGreater(many, 5, word)
        self.assertGreater(sum(len(files_now(run.world)) for run in runs), 45)

    def test_one_long_run(self):
        run = self.run_one(1000, 5000, 250, (4000,))
        run.finish()

    def test_runs_on_small_disks(self):
        """Disks that become full: nothing ends any more, but all facts hold."""
        for seed in range(20):
            with self.subTest(seed=seed):
                self.run_one(2000 + seed, 500, 50, (40, 60, 100))


class Cuts(WorldCase):
    """A deed of which any letter to a machine is cut, at any step, ends just as without a cut."""

    SETTINGS = Settings(3, 4, 1, 1, 1, 13, 200, 2)

    def begun(self):
        """A file with two rows; s1 was wiped, s2 is spoiled, s3 holds a dead and a strange piece."""
        world = World(self.SETTINGS)
        world.hand("ann")
        self.do(world, "ann", "file", F)
        for number, letters in ((0, (1, 2, 3)), (1, (4,)), (1, (5, 6))):
            same(self, self.do(world, "ann", "write", F, number, letters), "done")
        world.hand("bob")
        world.call("bob", ("write", F, 0, (7, 8)))
        world.fall("bob")
        for number, letter in world.letters():
            if letter[0] == "bob" and letter[1] == "s3":
                world.give(number)
        for number, _ in world.letters():
            world.lose(number)
        world.wipe("s1")
        world.restart("s1")
        world.crash("s2")
        world.spoil("s2", ("ann", 0), 1, (dict(held(world.blocks_of("s2")))[("ann", 0)][1] + 1) % 13)
        world.restart("s2")
        return world

    def served(self, deed, nth=None, steps=0, lot=()):
        """The world behind a deed of which the letter with this place is cut. With how many letters, and whether
        the letter could be cut, and the cut was short."""
        world = self.begun()
        world.call("ann", deed)
        many, is_cut, is_short = 0, False, False
        while world.busy("ann"):
            letters = world.letters()
            if not letters:
                world.nudge("ann")
                continue
            number, letter = letters[0]
            if many == nth and letter[1] != "ann":
                is_cut = True
                sent = world.letters()[-1][0]
                world.cut(number, steps, lot)
                is_short = not world.letters() or world.letters()[-1][0] <= sent
                world.restart(letter[1], steps, lot)
                if not world.running(letter[1]):
                    world.restart(letter[1])
            else:
                world.give(number)
            many += 1
        return world, many, is_cut, is_short

    def shelves(self, world):
        return [held(world.blocks_of(f"s{number}")) for number in range(1, 5)]

    def test_each_deed(self):
        for deed in (("make", A), ("write", F, 1, (9, 9, 9)), ("read", F, 0), ("cut", F, 1), ("fold",), ("mend", "s1"),
                     ("sweep", "s3"), ("scrub", "s2")):
            plain, many, _, _ = self.served(deed)
            answer = plain.history()[-1][2]
            cuts = 0
            for nth in range(many):
                for steps in range(20):
                    short = False
                    for lot in ((), (0,), (0, 1, 2, 3)):
                        world, _, is_cut, is_short = self.served(deed, nth, steps, lot)
                        cuts += is_cut
                        short = short or is_short
                        told = world.history()[-1][2]
                        # A "fix" that was done without an answer is not done again.
                        same(self, told if told != () else answer, answer)
                        same(self, files_now(world), files_now(plain))
                        if deed[0] in ("mend", "sweep", "scrub"):
                            same(self, self.shelves(world), self.shelves(plain))
                            same(self, all_whole(world), all_whole(plain))
                        self.check_explained(world)
                        if not is_cut:
                            break
                    if not short:
                        break
            self.assertGreater(cuts, 12)

    def test_what_the_deeds_do(self):
        same(self, self.served(("mend", "s1"))[0].history()[-1][2], "whole")
        same(self, self.served(("sweep", "s3"))[0].history()[-1][2], (("ann", 1), ("bob", 0)))
        same(self, self.served(("scrub", "s2"))[0].history()[-1][2], (("ann", 0),))

    def test_deeds_that_never_come_to_their_end(self):
        """A hand falls behind any letter of a mending, a sweeping, a scrubbing; another one does it again."""
        for deed in (("mend", "s1"), ("sweep", "s3"), ("scrub", "s2"), ("write", F, 0, (1,)), ("fold",)):
            _, many, _, _ = self.served(deed)
            for nth in range(many):
                world = self.begun()
                world.call("ann", deed)
                for _ in range(nth):
                    world.give(world.letters()[0][0])
                world.fall("ann")
                self.check_explained(world)
                world.hand("cy")
                for word in ("mend", "sweep", "scrub"):
                    for number in range(1, 5):
                        self.do(world, "cy", word, f"s{number}")
                same(self, (all_whole(world), world.spoiled()), (True, ()))
                self.check_explained(world)
                writes = [tuple(write for write, _ in held(world.blocks_of(f"s{number}"))) for number in range(1, 5)]
                same(self, writes, writes[:1] * 4)


class Ends(WorldCase):
    def test_each_deed_ends_when_its_hand_is_served_alone(self):
        """All machines run, and nobody wipes or spoils: many hands with deeds of all words, letters lost at first."""
        for servers in (1, 3, 5, 7):
            world = World(Settings(servers, 5, 2, 1, 1, 13, 1000, 3))
            deeds = (("file", F), ("write", F, 0, (1, 2)), ("read", F, 0), ("mend", "s1"), ("sweep", "s2"), ("fold",),
                     ("scrub", "s3"), ("write", F, 0, ()), ("move", F, A), ("list", ()))
            for number, deed in enumerate(deeds):
                world.hand(f"h{number}")
                world.call(f"h{number}", deed)
            for number, _ in world.letters():
                if number % 3 == 0:
                    world.lose(number)
                elif number % 3 == 1:
                    world.give(number)
            self.assertGreater(settle(world), 50)
            same(self, [world.busy(name) for name in world.hands()], [False] * 10)
            self.check_explained(world)


if __name__ == "__main__":
    unittest.main()
