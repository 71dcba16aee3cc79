"""What several tests of worlds use."""

import unittest

from keptfiles.errors import Settings, server_names, shelf_names
from keptfiles.judge import explained, paper_of, plain_behind
from keptfiles.machine import state_data
from keptfiles.meaning import meaning, whole_shelves
from keptfiles.world import World, settle
from tests.helpers import check_error, same

# None of these is the NAME of anything.
NO_NAMES = (None, True, 0, 7, "", "S1", "s9", "b4", "nobody", "s 1", (), ("s1",), ["s1"], {}, b"s1")
NO_NUMBERS = (None, True, False, -1, "0", "", (), (0,), [], 0.0, b"0")
NO_LOTS = (None, True, 0, "", "0", {}, {0: 1}, (-1,), (True,), (False, 1), (0, 0), (1, 0), [0, 2, 1], ("0",), (None,), b"")


def machine_names(settings):
    return server_names(settings) + shelf_names(settings)


def snapshot(world):
    """All that a world tells."""
    hands = world.hands()
    names = machine_names(world.settings)
    return (world.letters(), world.history(), hands, tuple(world.busy(name) for name in hands),
            tuple(world.known_by(name) for name in hands), world.spoiled(),
            tuple((world.running(name), world.blocks_of(name), world.waiting_of(name)) for name in names),
            tuple(world.life_of(name) for name in shelf_names(world.settings)))


class WorldCase(unittest.TestCase):
    def check_wrong(self, world, kind, attributes, call, *args, **more):
        """The deed raises this error and changes nothing."""
        before = snapshot(world)
        check_error(self, kind, attributes, call, *args, **more)
        same(self, snapshot(world), before)

    def check_explained(self, world):
        """The main facts: all answers are explained, all rows are told, and the files are those of a plain tree."""
        paper = paper_of(world)
        told = meaning(world)
        self.assertIs(explained(world.history(), paper), True)
        for _, rows in told.files:
            self.assertNotIn(None, rows)
        same(self, told.files, tuple(pair for pair in plain_behind(world.history(), paper) if pair[1] is not None))

    def do(self, world, name, *deed):
        """A hand does a deed, with all letters given. Its answer."""
        world.call(name, deed)
        settle(world)
        answer = world.history()[-1]
        same(self, answer[:2], ("answer", name))
        return answer[2]


def begun(settings=Settings(3, 6, 2, 1, 1, 13, 400, 3), hands=("ann",)):
    world = World(settings)
    for name in hands:
        world.hand(name)
    return world


def files_now(world):
    return meaning(world).files


def state_now(world):
    return state_data(meaning(world).state)


def all_whole(world):
    return whole_shelves(world) == shelf_names(world.settings)
