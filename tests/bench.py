"""A hand and its book servers; a test sees each letter to a shelf, and answers as it likes."""

import unittest

from keptfiles.agree import Walker
from keptfiles.disk import Disk
from keptfiles.errors import Settings, server_names, shelf_names
from keptfiles.hands import Hand
from keptfiles.machine import state_data
from keptfiles.synod import BookServer
from tests.helpers import same

# Two pieces tell a write, one may be wrong, and one shelf may be wiped: five of six shelves are needed.
SETTINGS = Settings(1, 6, 2, 1, 1, 13, 400, 3)
SHELVES = shelf_names(SETTINGS)


class Bench:
    """The other hand is called a, so that its ballots are below those of ann."""

    def __init__(self, settings=SETTINGS):
        self.settings = settings
        self.servers = {name: BookServer(name, Disk(settings.size), settings.width) for name in server_names(settings)}
        self.hand = Hand("ann", settings)
        self.other = Walker("a", settings)

    def book(self, letters):
        """Letters to and from book servers are given until there are none. Those to shelves, in their order."""
        waits, others = list(letters), []
        while waits:
            letter = waits.pop(0)
            if letter[1] in self.servers:
                waits.extend(self.servers[letter[1]].hear(letter))
            elif letter[1] == "ann":
                waits.extend(self.hand.hear(letter))
            else:
                others.append(letter)
        return tuple(others)

    def say(self, word, *body):
        """The other hand says a command. Its answer."""
        letters = list(self.other.submit(word, body))
        while self.other.told is None:
            letters = letters or list(self.other.nudge())
            letter = letters.pop(0)
            target = self.servers.get(letter[1], self.other)
            letters.extend(target.hear(letter))
        return self.other.told[0]

    def fold(self):
        """The other hand lets all book servers fold what it knows."""
        body = (self.other.start + len(self.other.rows), state_data(self.other.state))
        for name, server in self.servers.items():
            server.hear(("a", name, "fold", body))

    def hear(self, source, word, *body):
        """What the hand sends when it hears this letter."""
        return self.hand.hear((source, "ann", word, body))

    def said(self):
        """The commands of ann as far as ann knows the book: pairs of word and body."""
        return [command[1:] for command in self.hand.walker.rows if command[0][0] == "ann"]


def to_shelves(word, *body, shelves=SHELVES):
    """Letters of ann to shelves, all with the same body."""
    return tuple(("ann", shelf, word, body) for shelf in shelves)


class BenchCase(unittest.TestCase):
    def check_over(self, bench, answer, slot):
        same(self, (bench.hand.is_busy, bench.hand.result), (False, (answer, slot)))

    def check_waits(self, bench):
        same(self, (bench.hand.is_busy, bench.hand.result), (True, None))

    def check_asks(self, letters, slot, number=0):
        """The letters begin a command in this slot, with one book server."""
        same(self, letters, (("ann", "b1", "ask", (slot, (number, "ann"))),))

    def check_nothing(self, bench, *letters):
        """None of these letters (source, word, body ..) means anything."""
        before = (bench.hand.is_busy, bench.hand.result, bench.hand.walker.told, bench.hand.walker.rows)
        for letter in letters:
            same(self, bench.hear(*letter), ())
        same(self, (bench.hand.is_busy, bench.hand.result, bench.hand.walker.told, bench.hand.walker.rows), before)
