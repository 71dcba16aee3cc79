"""Promises [67], [68]: spoil, and which shelves are spoiled, or count as spoiled."""

import unittest

from keptfiles.code import pieces_of
from keptfiles.errors import Awake, BadNumber, NoName, Settings, TooMany
from keptfiles.keeper import cell_at
from keptfiles.shelves import held
from keptfiles.world import World, serve, settle
from tests.helpers import same
from tests.worlds import NO_NAMES, NO_NUMBERS, WorldCase, begun, files_now, snapshot

F = ("f",)
W0, W1 = ("ann", 0), ("ann", 1)
LETTERS = (1, 2, 3, 4, 5)


class SpoilCase(WorldCase):
    def with_file(self, e=1, hands=("ann", "bob")):
        world = begun(Settings(1, 7, 2, e, 1, 13, 400, 2), hands)
        self.pieces = pieces_of(LETTERS, world.settings)
        self.do(world, "ann", "file", F)
        self.do(world, "ann", "write", F, 0, LETTERS)
        same(self, [held(world.blocks_of(f"s{number}")) for number in (1, 2, 3)],
             [((W0, self.pieces[number - 1]),) for number in (1, 2, 3)])
        for _, letter in world.letters():
            self.assertNotEqual(letter[2], "never")
        while world.letters():
            world.give(world.letters()[0][0])
        return world

    def spoil(self, world, name, place=0, write=W0):
        """A fallen shelf has another number there; it is begun again."""
        world.crash(name)
        piece = dict(held(world.blocks_of(name)))[write]
        world.spoil(name, write, place, (piece[place] + 1) % 13)
        world.restart(name)

    def check_too_many(self, world, name, many):
        """One shelf more cannot be spoiled."""
        world.crash(name)
        piece = dict(held(world.blocks_of(name)))[W0]
        self.check_wrong(world, TooMany, {"what": "spoiled", "many": many, "limit": world.settings.e}, world.spoil,
                         name, W0, 0, (piece[0] + 1) % 13)
        world.restart(name)


class Errors(SpoilCase):
    def test_names(self):
        world = self.with_file()
        for name in NO_NAMES + ("b1", "ann"):
            if name != "s9":
                self.check_wrong(world, NoName, {"name": name}, world.spoil, name, None, None, None)
        for name in ("s1", "s7"):
            self.check_wrong(world, Awake, {"name": name}, world.spoil, name, None, None, None)

    def test_places(self):
        world = self.with_file()
        world.crash("s1")
        for place in NO_NUMBERS + (3, 4, 10 ** 9):
            for number in (0, None):
                self.check_wrong(world, BadNumber, {"what": "place", "number": place}, world.spoil, "s1", W0, place, number)
        for write in (W1, ("bob", 0), ("ann", -1), ("ann", False), ("ann", 0, 0), ("ann",), (), None, "ann", ["ann", 0]):
            for place in (0, 1):
                self.check_wrong(world, BadNumber, {"what": "place", "number": place}, world.spoil, "s1", write, place, -1)

    def test_a_piece_of_no_numbers_and_one_that_was_dropped(self):
        world = self.with_file()
        self.do(world, "ann", "write", F, 1, ())
        world.crash("s1")
        same(self, [write for write, _ in held(world.blocks_of("s1"))], [W0, W1])
        self.check_wrong(world, BadNumber, {"what": "place", "number": 0}, world.spoil, "s1", W1, 0, 0)
        world.restart("s1")
        self.do(world, "ann", "cut", F, 0)
        same(self, self.do(world, "ann", "sweep", "s1"), (W0, W1))
        world.crash("s1")
        self.check_wrong(world, BadNumber, {"what": "place", "number": 0}, world.spoil, "s1", W0, 0, 0)

    def test_numbers(self):
        world = self.with_file(0)
        world.crash("s1")
        for number in NO_NUMBERS + (13, 14, 10 ** 9):
            self.check_wrong(world, BadNumber, {"what": "number", "number": number}, world.spoil, "s1", W0, 0, number)

    def test_a_wiped_shelf(self):
        world = self.with_file()
        world.wipe("s1")
        self.check_wrong(world, BadNumber, {"what": "place", "number": 0}, world.spoil, "s1", W0, 0, 0)
        world.restart("s1", 1)
        self.check_wrong(world, BadNumber, {"what": "place", "number": 0}, world.spoil, "s1", W0, 0, 0)


class Cells(SpoilCase):
    def test_just_one_cell(self):
        for place in range(3):
            world = self.with_file()
            world.crash("s2")
            blocks = world.blocks_of("s2")
            number, at = cell_at(blocks, ("piece", W0), place)
            world.spoil("s2", W0, place, 12 if self.pieces[1][place] != 12 else 0)
            after = world.blocks_of("s2")
            same(self, [n for n in range(400) if blocks[n] != after[n]], [number])
            same(self, after[number][:5], blocks[number][:5])
            same(self, [n for n in range(len(blocks[number][5])) if blocks[number][5][n] != after[number][5][n]], [at])
            same(self, (world.spoiled(), world.waiting_of("s2"), world.running("s2")), (("s2",), (), False))
            same(self, files_now(world), ((F, (LETTERS,)),))
            world.restart("s2")
            same(self, self.do(world, "bob", "read", F, 0), LETTERS)
            self.check_explained(world)

    def test_the_same_number_again(self):
        """It spoils nothing, so it may befall any shelf."""
        for e in (0, 1, 2):
            world = self.with_file(e)
            for name in ("s1", "s2", "s3", "s4"):
                world.crash(name)
                blocks = world.blocks_of(name)
                world.spoil(name, W0, 1, self.pieces[int(name[1:]) - 1][1])
                same(self, (world.blocks_of(name), world.spoiled()), (blocks, ()))
                world.restart(name)


class Counts(SpoilCase):
    def test_at_e_and_above(self):
        for e in (0, 1, 2):
            world = self.with_file(e)
            for number in range(1, e + 1):
                self.spoil(world, f"s{number}")
                # More may rot on a shelf that is spoiled.
                self.spoil(world, f"s{number}", 1)
                self.spoil(world, f"s{number}")
                same(self, world.spoiled(), tuple(f"s{n}" for n in range(1, number + 1)))
            for number in range(e + 1, 8):
                if number < 6:
                    self.check_too_many(world, f"s{number}", e + 1)
            self.check_explained(world)

    def test_the_right_number_again(self):
        world = self.with_file()
        self.spoil(world, "s3", 2)
        world.crash("s3")
        world.spoil("s3", W0, 2, self.pieces[2][2])
        same(self, world.spoiled(), ())
        world.restart("s3")
        self.spoil(world, "s1")
        same(self, world.spoiled(), ("s1",))

    def test_two_cells_and_two_pieces(self):
        world = self.with_file()
        self.do(world, "ann", "write", F, 1, (7,))
        self.spoil(world, "s1", 0)
        self.spoil(world, "s1", 1)
        self.spoil(world, "s1", 0, W1)
        world.crash("s1")
        for place, write in ((0, W0), (1, W0), (0, W1)):
            same(self, world.spoiled(), ("s1",))
            right = self.pieces[0] if write == W0 else pieces_of((7,), world.settings)[0]
            world.spoil("s1", write, place, right[place])
        same(self, world.spoiled(), ())

    def test_ends_with_a_fix(self):
        world = self.with_file()
        self.spoil(world, "s1")
        self.check_too_many(world, "s2", 2)
        same(self, self.do(world, "bob", "scrub", "s1"), (W0,))
        same(self, (world.spoiled(), dict(held(world.blocks_of("s1")))[W0]), ((), self.pieces[0]))
        self.spoil(world, "s2")
        same(self, world.spoiled(), ("s2",))
        same(self, self.do(world, "bob", "scrub", "s1"), ())

    def test_ends_with_a_fix_that_is_cut_if_it_is_done(self):
        for lot, is_done in (((), False), ((0,), False), ((0, 1), True), ((1,), False)):
            world = self.with_file()
            self.spoil(world, "s1")
            world.call("bob", ("scrub", "s1"))
            while world.letters()[0][1][2] != "fix":
                world.give(world.letters()[0][0])
            # Two blocks of a record, and no flush.
            world.cut(world.letters()[0][0], 2, lot)
            same(self, world.spoiled(), () if is_done else ("s1",))
            world.restart("s1")
            same(self, world.spoiled(), () if is_done else ("s1",))

    def test_ends_with_a_drop(self):
        world = self.with_file()
        self.do(world, "ann", "cut", F, 0)
        self.spoil(world, "s1")
        same(self, self.do(world, "bob", "sweep", "s1"), (W0,))
        same(self, world.spoiled(), ())
        self.spoil(world, "s2")

    def test_ends_with_a_wiping(self):
        world = self.with_file()
        self.spoil(world, "s1")
        world.wipe("s1")
        same(self, world.spoiled(), ())
        self.spoil(world, "s2")
        same(self, world.spoiled(), ("s2",))

    def test_a_late_put_brings_the_right_piece(self):
        """A put that stayed under way brings the piece again, behind its dropping or behind a wiping."""
        for is_wiped in (False, True):
            world = self.with_file()
            world.call("ann", ("write", F, 1, LETTERS))
            late = [number for number, letter in world.letters() if letter[1] == "s1"][0]
            world.double(late)
            for number, letter in world.letters():
                if letter[2] == "kept":
                    world.give(number)
            same(self, [write for write, _ in held(world.blocks_of("s1"))], [W0, W1])
            world.fall("ann")
            self.spoil(world, "s1", 0, W1)
            if is_wiped:
                world.wipe("s1")
                world.restart("s1")
            else:
                same(self, self.do(world, "bob", "sweep", "s1"), (W1,))
            same(self, world.spoiled(), ())
            world.give(late)
            same(self, dict(held(world.blocks_of("s1")))[W1], self.pieces[0])
            same(self, world.spoiled(), ())
            self.spoil(world, "s1", 1, W1)
            same(self, world.spoiled(), ("s1",))

    def test_a_put_takes_no_spoiled_piece_away(self):
        world = self.with_file()
        world.call("ann", ("write", F, 1, LETTERS))
        late = [number for number, letter in world.letters() if letter[1] == "s1"][0]
        world.double(late)
        self.spoil(world, "s1", 0, W1)
        world.give(late)
        same(self, world.spoiled(), ("s1",))

    def test_falls_and_moves_change_nothing(self):
        world = self.with_file()
        self.spoil(world, "s1")
        for number in range(1, 130):
            same(self, self.do(world, "ann", "write", F, (number + 1) % 2 + 1, (number % 13,)), "done")
            if number % 10 == 0:
                world.crash("s1")
                world.restart("s1", number % 3)
                if not world.running("s1"):
                    world.restart("s1")
                self.do(world, "ann", "sweep", "s1")
            same(self, world.spoiled(), ("s1",))
        self.assertGreater(world.blocks_of("s1")[0][0], 0)
        self.check_explained(world)


class Deeds(SpoilCase):
    """A shelf counts as spoiled as long as a deed that was begun ahead of its last ceasing is not over."""

    def spoiled_and_fixed(self, world, name="s1"):
        self.spoil(world, name)
        same(self, self.do(world, "zoe", "scrub", name), (W0,))
        same(self, world.spoiled(), ())

    def test_a_deed_that_was_begun_earlier(self):
        world = self.with_file(hands=("ann", "bob", "zoe"))
        world.call("ann", ("read", F, 0))
        self.spoil(world, "s1")
        world.call("zoe", ("scrub", "s1"))
        serve(world, "zoe", 0)
        same(self, (world.spoiled(), world.busy("ann")), ((), True))
        self.check_too_many(world, "s2", 2)
        # s1 itself may be spoiled again, and cease again.
        self.spoil(world, "s1")
        world.crash("s1")
        world.spoil("s1", W0, 0, self.pieces[0][0])
        world.restart("s1")
        self.check_too_many(world, "s2", 2)
        settle(world)
        self.spoil(world, "s2")
        same(self, world.spoiled(), ("s2",))
        self.check_explained(world)

    def test_a_hand_that_falls(self):
        world = self.with_file(hands=("ann", "bob", "zoe"))
        world.call("ann", ("read", F, 0))
        self.spoil(world, "s1")
        world.wipe("s1")
        world.restart("s1")
        same(self, world.spoiled(), ())
        self.check_too_many(world, "s2", 2)
        world.fall("ann")
        self.spoil(world, "s2")

    def test_a_deed_that_was_begun_later(self):
        world = self.with_file(hands=("ann", "bob", "zoe"))
        self.spoiled_and_fixed(world)
        world.call("ann", ("read", F, 0))
        world.call("bob", ("make", ("a",)))
        self.spoil(world, "s2")
        same(self, world.spoiled(), ("s2",))

    def test_a_deed_between_two_ceasings(self):
        world = self.with_file(hands=("ann", "bob", "zoe"))
        self.spoiled_and_fixed(world)
        world.call("ann", ("read", F, 0))
        self.spoil(world, "s1")
        world.crash("s1")
        world.spoil("s1", W0, 0, self.pieces[0][0])
        world.restart("s1")
        same(self, world.spoiled(), ())
        self.check_too_many(world, "s2", 2)

    def test_a_shelf_that_never_was_spoiled_counts_never(self):
        world = self.with_file(2, hands=("ann", "bob", "zoe"))
        world.call("ann", ("read", F, 0))
        self.spoil(world, "s1")
        self.spoil(world, "s2")
        self.check_too_many(world, "s3", 3)
        world.crash("s1")
        world.spoil("s1", W0, 0, self.pieces[0][0])
        world.restart("s1")
        self.check_too_many(world, "s3", 3)
        world.fall("ann")
        self.spoil(world, "s3")
        same(self, world.spoiled(), ("s2", "s3"))

    def test_a_spoiling_that_is_taken_back_while_a_deed_is_open(self):
        """Ahead of its own ceasing the shelf counts once, behind it once more for the deed alone."""
        world = self.with_file(hands=("ann", "bob", "zoe"))
        self.spoil(world, "s1")
        world.call("ann", ("read", F, 0))
        world.crash("s1")
        before = snapshot(world)
        world.spoil("s1", W0, 0, self.pieces[0][0])
        self.assertNotEqual(snapshot(world), before)
        same(self, world.spoiled(), ())
        world.restart("s1")
        self.check_too_many(world, "s2", 2)


class NewWorlds(WorldCase):
    def test_nothing_is_spoiled(self):
        same(self, World(Settings(1, 8, 4, 2, 0, 11, 60, 2)).spoiled(), ())


if __name__ == "__main__":
    unittest.main()
