"""Drawn runs of worlds: all that may befall them, and the facts that hold behind each deed."""

import random

from keptfiles.code import piece_of
from keptfiles.errors import Asleep, Awake, Settings, TooMany, server_names, shelf_names
from keptfiles.judge import explained, paper_of, plain_behind
from keptfiles.machine import life_in, standing, start_state, step
from keptfiles.mending import dead, missing, strange, undone
from keptfiles.meaning import book_of, meaning, pieces_on, start_of, state_of, whole_shelves
from keptfiles.shelves import held
from keptfiles.synod import chosen
from keptfiles.world import World, settle
from tests.helpers import same, state_tuple
from tests.worlds import machine_names

PATHS = ((), ("a",), ("b",), ("c",), ("a", "b"), ("a", "c"), ("d",))
FILES = (("b",), ("c",), ("a", "c"))


def drawn_settings(dice, sizes):
    """Settings of all kinds, with one of these sizes."""
    while True:
        shelves, k, e, f = dice.randint(1, 8), dice.randint(1, 4), dice.randint(0, 2), dice.randint(0, 3)
        if k + 2 * e + f <= shelves:
            return Settings(dice.choice((1, 3, 3, 5, 7)), shelves, k, e, f, dice.choice((11, 13, 101, 999983)),
                            dice.choice(sizes), dice.choice((1, 2, 3, 16)))


class Run:
    def __init__(self, case, seed, sizes=(400, 1000)):
        self.case = case
        self.dice = random.Random(seed)
        self.settings = drawn_settings(self.dice, sizes)
        self.world = World(self.settings)
        self.servers, self.shelves = server_names(self.settings), shelf_names(self.settings)
        self.hands = 0
        self.ever = {}
        self.start = 0
        self.dead = {name: () for name in self.shelves}
        self.begin()

    def begin(self):
        """Some files are there, so that most writes are done."""
        name = self.hand()
        for deed in (("make", ("a",)), ("file", FILES[0]), ("file", FILES[1]), ("file", FILES[2])):
            self.world.call(name, deed)
            settle(self.world)

    # What happens.

    def hand(self):
        self.hands += 1
        name = self.dice.choice(("ann", "h", "zoe")) + str(self.hands)
        self.world.hand(name)
        return name

    def lot(self):
        return tuple(place for place in range(12) if self.dice.randrange(2))

    def deed(self):
        dice = self.dice
        path, kind = dice.choice(PATHS), dice.randrange(40)
        if kind < 14:
            letters = tuple(dice.randrange(self.settings.prime) for _ in range(dice.choice((0, 1, 2, 5, 9))))
            return "write", dice.choice(FILES), dice.choice((0, 0, 1, 2)), letters
        if kind < 19:
            return "read", dice.choice(FILES), dice.choice((0, 0, 1))
        if kind < 23:
            return "file", dice.choice(FILES)
        if kind < 27:
            return dice.choice(("make", "make", "list", "size", "drop")), path
        if kind < 29:
            return "move", path, dice.choice(PATHS)
        if kind < 31:
            return "cut", dice.choice(FILES), dice.choice((0, 1, 1, 2))
        if kind < 33:
            return ("fold",)
        return dice.choice(("mend", "mend", "scrub", "sweep")), dice.choice(self.shelves)

    def act(self):
        """A hand comes, goes, calls or is nudged."""
        dice, world = self.dice, self.world
        names = world.hands()
        if len(names) < 3 and (not names or dice.randrange(8) == 0):
            self.hand()
            return
        name = dice.choice(names)
        if dice.randrange(60) == 0:
            world.fall(name)
        elif not world.busy(name):
            world.call(name, self.deed())
        elif dice.randrange(3) == 0 or not any(name in letter[:2] for _, letter in world.letters()):
            world.nudge(name)

    def befall(self):
        """A machine falls, begins again, is wiped or spoiled."""
        dice, world, kind = self.dice, self.world, self.dice.randrange(20)
        name = dice.choice(machine_names(self.settings))
        down = [other for other in machine_names(self.settings) if not world.running(other)]
        if down and kind < 14:
            world.restart(dice.choice(down), dice.choice((None, None, None, 0, 1, 2, 3, 4)), self.lot())
        elif kind < 2 and world.running(name):
            world.crash(name, self.lot())
        elif kind < 4 and name in self.shelves:
            world.wipe(name)
        elif kind < 10 and name in self.shelves:
            self.spoil(name)

    def spoil(self, name):
        dice, world = self.dice, self.world
        pieces = [pair for pair in held(world.blocks_of(name)) if pair[1]]
        if pieces:
            if world.running(name):
                world.crash(name)
            write, piece = dice.choice(pieces)
            world.spoil(name, write, dice.randrange(len(piece)), dice.randrange(self.settings.prime))

    def carry(self):
        """A letter is given, perhaps more than once, or lost, or cuts a machine."""
        dice, world, letters = self.dice, self.world, self.world.letters()
        number, letter = letters[0] if dice.randrange(6) else dice.choice(letters)
        kind = dice.randrange(40)
        if kind < 33:
            world.give(number)
        elif kind < 36:
            world.double(number)
        elif kind < 37 or len(letters) > 60:
            world.lose(number)
        elif letter[1] in machine_names(self.settings):
            world.cut(number, dice.randrange(9), self.lot())

    def some(self):
        """One thing more; what may not be is not done."""
        kind = self.dice.randrange(30)
        try:
            if kind < 25 and self.world.letters():
                self.carry()
            elif kind < 27:
                self.befall()
            else:
                self.act()
        except (TooMany, Asleep, Awake):
            pass

    # What is looked at.

    def look(self):
        """What is quickly looked at, behind each deed."""
        world = self.world
        for name in machine_names(self.settings):
            same(self.case, world.waiting_of(name), ())
        start, commands = start_of(world), book_of(world)
        self.case.assertGreaterEqual(start, self.start)
        self.start = start
        for slot, command in enumerate(commands, start):
            same(self.case, self.ever.setdefault(slot, command), command)
        # What was chosen stays chosen until a fold behind it, without a gap.
        same(self.case, len(self.ever), start + len(commands))

    def look_at_book(self):
        """What hands know, and what is chosen in any slot, is what was chosen there ever."""
        world = self.world
        for slot, command in chosen([world.blocks_of(name) for name in self.servers]).items():
            same(self.case, self.ever[slot], command)
        for name in world.hands():
            first, rows = world.known_by(name)
            same(self.case, rows, tuple(self.ever[slot] for slot in range(first, first + len(rows))))

    def look_whole(self):
        """All facts."""
        case, world, settings = self.case, self.world, self.settings
        self.look()
        self.look_at_book()
        paper, told = paper_of(world), meaning(world)
        case.assertTrue(explained(world.history(), paper))
        files = tuple(pair for pair in plain_behind(world.history(), paper) if pair[1] is not None)
        same(case, told.files, files)
        same(case, state_tuple(told.state), state_tuple(self.replayed()))
        case.assertLessEqual(len(self.shelves) - len(whole_shelves(world)), settings.f)
        case.assertLessEqual(len(world.spoiled()), settings.e)
        for name in self.shelves:
            case.assertLessEqual(life_in(told.state, name)[0], world.life_of(name))
        letters = dict(zip([row for _, rows in told.state.tree if rows for row in rows],
                           [each for _, rows in files for each in rows]))
        same(case, sorted(letters), list(standing(told.state)))
        self.look_at_pieces(letters)
        self.look_at_dead(told.state)

    def replayed(self):
        """The State behind all that was ever chosen; notes which shelves each commit counted."""
        state = start_state(self.settings)
        self.counted = {}
        for slot in range(len(self.ever)):
            command = self.ever[slot]
            lives = {name: life_in(state, name)[0] for name in self.shelves}
            state, answer = step(state, command)
            if command[1] == "commit" and answer == "done":
                marks = command[2][4]
                self.counted[command[2][2]] = [name for name in self.shelves if (name, lives[name]) in marks]
        return state

    def look_at_pieces(self, letters):
        case, world, settings = self.case, self.world, self.settings
        whole, spoiled = whole_shelves(world), world.spoiled()
        for (write, _), row in letters.items():
            pieces = dict(pieces_on(world, write))
            right = [number for number in pieces if pieces[number] == piece_of(row, number, settings)]
            case.assertGreaterEqual(len(pieces), settings.k + 2 * settings.e)
            case.assertGreaterEqual(len(right), settings.k + settings.e)
            case.assertGreaterEqual(len(self.counted[write]), settings.need)
            for name in self.shelves:
                if name in self.counted[write] and name in whole:
                    case.assertIn(int(name[1:]), pieces)
                if int(name[1:]) in pieces and name not in spoiled:
                    case.assertIn(int(name[1:]), right)

    def look_at_dead(self, state):
        """What was dead stays dead: nothing of it ever stands again."""
        for name in self.shelves:
            same(self.case, dead(state, self.dead[name]), self.dead[name])
            writes = tuple(write for write, _ in held(self.world.blocks_of(name)))
            self.dead[name] = tuple(sorted(set(self.dead[name]) | set(dead(state, writes))))

    def rows(self):
        """The triples (shelf, life, writes) of all shelves."""
        return tuple((name, self.world.life_of(name), tuple(
            write for write, _ in held(self.world.blocks_of(name)))) for name in self.shelves)

    def undone(self):
        return undone(state_of(self.world), self.rows())

    # How it ends.

    def quiet(self):
        """All machines run, all hands but a new one are gone, and no letter is under way. The new hand.

        Behind a command of its own nothing that others began to set can be chosen any more.
        """
        world = self.world
        for name in machine_names(self.settings):
            if not world.running(name):
                world.restart(name)
        for name in world.hands():
            world.fall(name)
        name = self.hand()
        world.call(name, ("size", ()))
        settle(world)
        for number, _ in world.letters():
            world.give(number)
        for number, _ in world.letters():
            world.lose(number)
        return name

    def tend(self, name, word, shelf):
        """The hand does a deed at a shelf, with letters doubled and lost; what is left to do never grows."""
        dice, world = self.dice, self.world
        many = self.undone()
        world.call(name, (word, shelf))
        deeds = 0
        while world.busy(name):
            deeds += 1
            self.case.assertLess(deeds, 3000)
            letters = world.letters()
            kind = dice.randrange(12)
            if not letters:
                world.nudge(name)
            elif kind == 0:
                world.double(dice.choice(letters)[0])
            elif kind == 1:
                world.lose(dice.choice(letters)[0])
            else:
                world.give(letters[0][0] if kind < 9 else dice.choice(letters)[0])
            if deeds % 3 == 0:
                now = self.undone()
                self.case.assertLessEqual(now, many)
                many = now
        for number, _ in world.letters():
            world.give(number)
        self.case.assertLessEqual(self.undone(), many)
        return world.history()[-1][2]

    def check_clean(self):
        """Every shelf is whole, and holds just the right pieces of the writes that stand."""
        case, world = self.case, self.world
        state, told = state_of(world), meaning(world)
        letters = dict(zip([row for _, rows in state.tree if rows for row in rows],
                           [each for _, rows in told.files for each in rows]))
        same(case, (self.undone(), world.spoiled(), whole_shelves(world)), (0, (), self.shelves))
        for number, name in enumerate(self.shelves, 1):
            same(case, held(world.blocks_of(name)), tuple(
                (write, piece_of(letters[(write, count)], number, self.settings)) for write, count in standing(state)))
            same(case, (missing(state, [row[0] for row in standing(state)]), strange(state, ())), ((), ()))

    def finish(self):
        """A mending, a sweeping and a scrubbing of each shelf, on disks that are not full."""
        name = self.quiet()
        for word in ("mend", "sweep", "scrub"):
            for shelf in self.shelves:
                answer = self.tend(name, word, shelf)
                if word == "mend":
                    same(self.case, answer, "whole")
        self.look_whole()
        self.check_clean()
