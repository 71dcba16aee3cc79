"""Promises [70] to [73]: what disks mean, of a stand-in that has just settings, blocks_of and life_of."""

import unittest

from keptfiles.code import pieces_of
from keptfiles.disk import Disk
from keptfiles.errors import Settings, server_names, shelf_names
from keptfiles.keeper import cell_at
from keptfiles.machine import start_state, state_behind, state_data
from keptfiles.meaning import (Meaning, book_of, meaning, pieces_on, same_now, start_of, state_of, whole_shelves)
from keptfiles.shelves import Shelf
from keptfiles.synod import BookServer
from keptfiles.world import World, settle
from tests.helpers import same, state_tuple

SETTINGS = Settings(3, 6, 2, 1, 1, 13, 200, 2)
SERVERS, SHELVES = server_names(SETTINGS), shelf_names(SETTINGS)
MARKS = tuple((shelf, 0) for shelf in SHELVES)
F, G = ("f",), ("g",)
LETTERS = {("a", 0): (1, 2, 3), ("a", 1): (), ("a", 2): (12,)}
COMMANDS = (
    (("a", 0), "file", (F,)), (("a", 1), "commit", (F, 0, ("a", 0), 3, MARKS)), (("b", 0), "make", (G,)),
    (("a", 2), "commit", (F, 1, ("a", 1), 0, MARKS)), (("a", 3), "commit", (F, 0, ("a", 2), 1, MARKS)),
    (("b", 1), "file", (("g", "h"),)))


class Stand:
    def __init__(self, settings=SETTINGS):
        self.settings = settings
        self.disks = {name: Disk(settings.size) for name in server_names(settings) + shelf_names(settings)}
        self.machines = {name: BookServer(name, self.disks[name], settings.width) for name in server_names(settings)}
        self.lives = {name: 0 for name in shelf_names(settings)}
        for name in self.lives:
            self.begin_shelf(name)

    def begin_shelf(self, name):
        self.machines[name] = Shelf(name, self.disks[name], self.settings.width, self.lives[name])

    def blocks_of(self, name):
        return self.disks[name].blocks

    def life_of(self, name):
        return self.lives[name]

    # What tests do to it.

    def set(self, names, slot, value, ballot=(0, "a")):
        for name in names:
            self.machines[name].hear(("a", name, "set", (slot, ballot, value)))

    def choose(self, commands, first=0, names=SERVERS):
        for slot, command in enumerate(commands, first):
            self.set(names, slot, command)

    def fold(self, names, commands):
        body = (len(commands), state_data(state_behind(self.settings, commands)))
        for name in names:
            self.machines[name].hear(("a", name, "fold", body))

    def put(self, write, shelves=None, letters=None):
        pieces = pieces_of(LETTERS[write] if letters is None else letters, self.settings)
        for name in self.lives if shelves is None else shelves:
            self.machines[name].hear(("a", name, "put", (write, pieces[int(name[1:]) - 1])))

    def spoil(self, name, write, place, number):
        disk = self.disks[name]
        at, cell = cell_at(disk.blocks, ("piece", write), place)
        block = disk.blocks[at]
        disk.spoil(at, block[:5] + (block[5][:cell] + (number,) + block[5][cell + 1:],))

    def wipe(self, name):
        self.disks[name].wipe()
        self.lives[name] += 1
        self.begin_shelf(name)


class Books(unittest.TestCase):
    def check_book(self, stand, start, commands, row):
        """The book, and the State behind this row of commands, which has the book at its end."""
        same(self, start_of(stand), start)
        same(self, book_of(stand), tuple(commands))
        same(self, state_tuple(state_of(stand)), state_tuple(state_behind(stand.settings, row)))
        told = meaning(stand)
        same(self, (told.start, told.book, state_tuple(told.state)), (start, tuple(commands), state_tuple(
            state_of(stand))))

    def test_a_new_world(self):
        for servers in (1, 3, 5, 7):
            stand = Stand(Settings(servers, 2, 1, 0, 1, 5, 60, 2))
            self.check_book(stand, 0, (), ())
            same(self, state_tuple(state_of(stand)), state_tuple(start_state(stand.settings)))
            same(self, meaning(stand).files, ())

    def test_without_a_fold(self):
        stand = Stand()
        for many in range(len(COMMANDS) + 1):
            self.check_book(stand, 0, COMMANDS[:many], COMMANDS[:many])
            stand.choose(COMMANDS[many:many + 1], many, SERVERS[many % 2:many % 2 + 2])

    def test_a_gap(self):
        stand = Stand()
        stand.choose(COMMANDS[:2])
        stand.choose(COMMANDS[3:], 3)
        self.check_book(stand, 0, COMMANDS[:2], COMMANDS[:2])
        stand.set(("b3",), 2, COMMANDS[2])
        self.check_book(stand, 0, COMMANDS[:2], COMMANDS[:2])
        stand.set(("b1",), 2, COMMANDS[2])
        self.check_book(stand, 0, COMMANDS, COMMANDS)

    def test_half_is_not_enough(self):
        for servers in (3, 5, 7):
            stand = Stand(Settings(servers, 6, 2, 1, 1, 13, 60, 2))
            names = server_names(stand.settings)
            stand.choose(COMMANDS[:1], 0, names[:servers // 2])
            self.check_book(stand, 0, (), ())
            stand.choose(COMMANDS[:1], 0, names[servers // 2:servers // 2 + 1])
            self.check_book(stand, 0, COMMANDS[:1], COMMANDS[:1])

    def test_with_a_fold(self):
        stand = Stand()
        stand.choose(COMMANDS[:4])
        stand.fold(("b2",), COMMANDS[:3])
        self.check_book(stand, 3, COMMANDS[3:4], COMMANDS[:4])
        stand.choose(COMMANDS[4:], 4)
        self.check_book(stand, 3, COMMANDS[3:], COMMANDS)

    def test_unlike_folds(self):
        stand = Stand()
        stand.choose(COMMANDS[:5])
        for names, many in ((("b1",), 2), (("b3",), 4), (("b2",), 3)):
            stand.fold(names, COMMANDS[:many])
            start = 2 if many == 2 else 4
            # The greatest fold tells where the book begins, and slots that some have folded may hide what was chosen.
            self.check_book(stand, start, COMMANDS[start:5], COMMANDS[:5])
        stand.fold(("b1",), COMMANDS[:5])
        self.check_book(stand, 5, (), COMMANDS[:5])

    def test_a_fold_ahead_of_a_gap(self):
        stand = Stand()
        stand.choose(COMMANDS[:3])
        stand.choose(COMMANDS[4:5], 4)
        stand.fold(SERVERS, COMMANDS[:3])
        self.check_book(stand, 3, (), COMMANDS[:3])

    def test_what_waits_counts_for_nothing(self):
        stand = Stand()
        stand.disks["b1"].set_fuse(1)
        for name in ("b1", "b2"):
            try:
                stand.set((name,), 0, COMMANDS[0])
            except ValueError:
                same(self, len(stand.disks[name].waiting), 1)
        self.check_book(stand, 0, (), ())


class Pieces(unittest.TestCase):
    def test_pieces_on(self):
        stand = Stand()
        write = ("a", 0)
        pieces = pieces_of(LETTERS[write], SETTINGS)
        same(self, pieces_on(stand, write), ())
        stand.put(write, ("s5", "s2"))
        stand.put(("a", 1), ("s3",))
        same(self, pieces_on(stand, write), ((2, pieces[1]), (5, pieces[4])))
        same(self, pieces_on(stand, ("a", 1)), ((3, ()),))
        same(self, pieces_on(stand, ("a", 2)), ())
        stand.put(write)
        same(self, pieces_on(stand, write), tuple(enumerate(pieces, 1)))
        stand.wipe("s4")
        stand.machines["s1"].hear(("a", "s1", "drop", (0, write)))
        same(self, [number for number, _ in pieces_on(stand, write)], [2, 3, 5, 6])
        stand.spoil("s3", write, 1, 0)
        same(self, pieces_on(stand, write)[1], (3, pieces[2][:1] + (0,)))

    def test_pieces_on_eight_shelves(self):
        stand = Stand(Settings(1, 8, 4, 2, 0, 11, 60, 1))
        stand.put(("a", 0))
        same(self, [number for number, _ in pieces_on(stand, ("a", 0))], list(range(1, 9)))

    def test_whole_shelves(self):
        stand = Stand()
        same(self, whole_shelves(stand), SHELVES)
        stand.wipe("s2")
        same(self, whole_shelves(stand), ("s1", "s3", "s4", "s5", "s6"))
        stand.choose(((("a", 0), "life", ("s2", 1)),))
        same(self, whole_shelves(stand), ("s1", "s3", "s4", "s5", "s6"))
        stand.choose(((("a", 1), "whole", ("s2", 1)),), 1)
        same(self, whole_shelves(stand), SHELVES)
        # The State knows a life that is not the present one: of a shelf that was wiped once more, and was whole.
        stand.wipe("s2")
        same(self, whole_shelves(stand), ("s1", "s3", "s4", "s5", "s6"))
        stand.choose(((("a", 2), "life", ("s2", 2)), (("a", 3), "life", ("s6", 5))), 2)
        same(self, whole_shelves(stand), ("s1", "s3", "s4", "s5"))


class Files(unittest.TestCase):
    def with_files(self):
        stand = Stand()
        for write in LETTERS:
            stand.put(write)
        stand.choose(COMMANDS)
        return stand

    FILES = ((F, ((12,), ())), (("g", "h"), ()))

    def test_all_rows_are_told(self):
        stand = self.with_files()
        told = meaning(stand)
        self.assertIs(type(told), Meaning)
        same(self, told.files, self.FILES)

    def test_files_grow_with_the_book(self):
        stand = Stand()
        for write in LETTERS:
            stand.put(write)
        files = ((), ((F, ()),), ((F, ((1, 2, 3),)),), ((F, ((1, 2, 3),)),), ((F, ((1, 2, 3), ())),),
                 ((F, ((12,), ())),), self.FILES)
        for many, expected in enumerate(files):
            same(self, meaning(stand).files, expected)
            stand.choose(COMMANDS[many:many + 1], many)

    def test_a_wrong_piece(self):
        for name in SHELVES:
            stand = self.with_files()
            stand.spoil(name, ("a", 2), 0, 0 if pieces_of((12,), SETTINGS)[0] != (0,) else 1)
            same(self, meaning(stand).files, self.FILES)

    def test_wrong_pieces_of_two_shelves(self):
        settings = Settings(1, 8, 2, 2, 1, 13, 200, 2)
        stand = Stand(settings)
        marks = tuple((name, 0) for name in shelf_names(settings))
        stand.put(("a", 0))
        stand.choose([COMMANDS[0], (("a", 1), "commit", (F, 0, ("a", 0), 3, marks))], 0, ("b1",))
        for names in (("s1", "s2"), ("s3", "s8")):
            for name in names:
                stand.spoil(name, ("a", 0), 1, 11)
            same(self, meaning(stand).files, ((F, ((1, 2, 3),)),))
            for name in names:
                right = pieces_of((1, 2, 3), settings)[int(name[1:]) - 1]
                stand.spoil(name, ("a", 0), 1, right[1])

    def test_too_few_pieces(self):
        stand = self.with_files()
        for name in ("s1", "s3", "s6"):
            stand.wipe(name)
        same(self, meaning(stand).files, self.FILES)
        stand.wipe("s2")
        same(self, meaning(stand).files, ((F, (None, None)), (("g", "h"), ())))

    def test_meaning_has_its_attributes(self):
        told = Meaning(3, (), "state", ())
        same(self, (told.start, told.book, told.state, told.files), (3, (), "state", ()))


class RealWorlds(unittest.TestCase):
    def begun(self):
        world = World(SETTINGS)
        world.hand("a")
        for deed in (("file", F), ("write", F, 0, (1, 2, 3)), ("write", F, 1, ()), ("fold",), ("write", F, 0, (5,))):
            world.call("a", deed)
            settle(world)
        return world

    def test_what_a_world_means(self):
        world = self.begun()
        start, commands = start_of(world), book_of(world)
        same(self, (start, commands), (4, ((("a", 4), "commit", (F, 0, ("a", 2), 1, commands[0][2][4])),)))
        same(self, meaning(world).files, ((F, ((5,), ())),))
        same(self, state_of(world).many, 5)
        same(self, [number for number, _ in pieces_on(world, ("a", 2))], [1, 2, 3, 4, 5, 6])
        same(self, whole_shelves(world), SHELVES)

    def test_what_was_read_once_is_read_again_where_it_changed(self):
        """Behind each deed a world tells just what a stand-in tells that was never read before."""
        world = self.begun()
        world.hand("bob")
        deeds = [("write", F, 2, (7, 8)), ("cut", F, 1), ("sweep", "s2"), ("fold",), ("mend", "s1"), ("scrub", "s3")]
        for deed in deeds:
            world.call("bob", deed)
            for number in range(400):
                if not world.busy("bob"):
                    break
                letters = world.letters()
                world.give(letters[0][0]) if letters else world.nudge("bob")
                if number == 3:
                    world.crash("b2")
                    world.restart("b2", number % 3)
                    world.restart("b2") if not world.running("b2") else None
                self.check_as_new(world)
            same(self, world.busy("bob"), False)
            world.wipe("s1")
            self.check_as_new(world)
            world.restart("s1")
            world.crash("s3")
            write = ("a", 2)
            world.spoil("s3", write, 0, (dict(pieces_on(world, write))[3][0] + 1) % 13)
            self.check_as_new(world)
            world.restart("s3")

    def check_as_new(self, world):
        class Plain:
            settings, blocks_of, life_of = world.settings, world.blocks_of, world.life_of

        for tell in (start_of, book_of, whole_shelves):
            same(self, tell(world), tell(Plain()))
        for write in (("a", 0), ("a", 2), ("bob", 0)):
            same(self, pieces_on(world, write), pieces_on(Plain(), write))
        same(self, state_tuple(state_of(world)), state_tuple(state_of(Plain())))
        same(self, meaning(world).files, meaning(Plain()).files)
        self.assertIs(same_now(world, Plain()), True)

    def test_what_a_world_has_read_is_its_own(self):
        """Something that passes all on to a world, but tells other blocks, is read by its own blocks."""
        world, empty = self.begun(), World(SETTINGS)

        class Other:
            blocks_of = empty.blocks_of

            def __getattr__(self, name):
                return getattr(world, name)

        meaning(world)
        same(self, (book_of(Other()), meaning(Other()).files, pieces_on(Other(), ("a", 2))), ((), (), ()))
        same(self, meaning(world).files, ((F, ((5,), ())),))


class SameNow(unittest.TestCase):
    def stand(self, commands=COMMANDS, shelves=None):
        stand = Stand()
        for write in LETTERS:
            stand.put(write, shelves)
        stand.choose(commands)
        return stand

    def test_equal_worlds(self):
        first = self.stand()
        self.assertIs(same_now(first, first), True)
        self.assertIs(same_now(Stand(), Stand()), True)
        # Which disks tell it, and whether it is folded, does not matter.
        other = self.stand((), SHELVES[:4])
        other.choose(COMMANDS, 0, ("b1", "b3"))
        self.assertIs(same_now(first, other), True)
        other.fold(SERVERS, COMMANDS)
        self.assertIs(same_now(first, other), True)
        self.assertIs(same_now(other, first), True)

    def test_unlike_states(self):
        first = self.stand()
        self.assertIs(same_now(first, self.stand(COMMANDS[:5])), False)
        self.assertIs(same_now(first, Stand()), False)
        extra = (("b", 2), "idle", ())
        self.assertIs(same_now(first, self.stand(COMMANDS + (extra,))), False)
        self.assertIs(same_now(self.stand(COMMANDS + (extra,)), self.stand(COMMANDS + (extra,))), True)
        self.assertIs(same_now(self.stand(COMMANDS + (extra,)), self.stand(COMMANDS + ((("b", 3), "idle", ()),))), False)
        for word, body in (("bar", (("z", 1),)), ("life", ("s1", 1))):
            self.assertIs(same_now(self.stand(COMMANDS + (extra,)), self.stand(COMMANDS + ((("b", 2), word, body),))), False)
        # Settings with another need have another State.
        self.assertIs(same_now(Stand(), Stand(Settings(3, 6, 2, 1, 0, 13, 200, 2))), False)
        self.assertIs(same_now(Stand(), Stand(Settings(1, 6, 2, 1, 1, 17, 60, 1))), True)

    def test_unlike_files(self):
        first = self.stand()
        other = Stand()
        for write in LETTERS:
            other.put(write, letters=LETTERS[write] if write != ("a", 2) else (11,))
        other.choose(COMMANDS)
        same(self, state_tuple(state_of(first)), state_tuple(state_of(other)))
        self.assertIs(same_now(first, other), False)


if __name__ == "__main__":
    unittest.main()
