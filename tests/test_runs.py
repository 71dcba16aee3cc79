"""Promises [22], [28], [29]: runs of hands and book servers, with all that may happen to letters and machines."""

import random
import unittest

from keptfiles.errors import Settings
from keptfiles.machine import answers_of, state_behind
from tests.helpers import same, state_tuple
from tests.network import COMMANDS, Network


def settings_of(servers, size=400, width=3):
    return Settings(servers, 4, 2, 0, 1, 11, size, width)


class Quiet(unittest.TestCase):
    def serve(self, network, hand, limit=5):
        """All letters are given, and the hand is nudged until its command is over. How many letters were given.

        No slot needs more than so many nudges.
        """
        walker = network.walkers[hand]
        given, nudges, slot = 0, 0, network.slots[hand]
        while walker.told is None:
            if network.slots[hand] != slot:
                nudges, slot = 0, network.slots[hand]
            if network.letters:
                network.give(network.letters.pop(0))
                given += 1
            else:
                self.assertLess(nudges, limit)
                network.nudge(hand)
                nudges += 1
        return given

    def test_two_rows_of_letters_each_way(self):
        for servers in (1, 3, 5, 7):
            network = Network(self, settings_of(servers), ("ann", "bob"))
            for count, (word, body) in enumerate(COMMANDS):
                network.submit("ann", word, body)
                rows = 0
                while network.letters:
                    letters, network.letters = network.letters, []
                    self.assertEqual(len(letters), servers)
                    for letter in letters:
                        network.give(letter)
                    rows += 1
                same(self, rows, 4)
                same(self, network.walkers["ann"].told[1], count)
            commands = tuple((("ann", count),) + command for count, command in enumerate(COMMANDS))
            same(self, network.walkers["ann"].rows, commands)
            same(self, tuple(network.ever[slot] for slot in range(len(commands))), commands)

    def test_just_more_than_half_answer(self):
        for servers in (3, 5, 7):
            network = Network(self, settings_of(servers), ("ann",))
            for server in network.names[:servers // 2]:
                network.crash(server)
            network.submit("ann", "make", (("a",),))
            self.serve(network, "ann", 0)
            same(self, network.walkers["ann"].told, ("done", 0))

    def test_half_of_the_servers_find_nothing(self):
        for servers in (3, 5, 7):
            network = Network(self, settings_of(servers), ("ann",))
            for server in network.names[:servers // 2 + 1]:
                network.crash(server)
            network.submit("ann", "make", (("a",),))
            for _ in range(10):
                while network.letters:
                    network.give(network.letters.pop(0))
                network.nudge("ann")
            same(self, (network.walkers["ann"].told, network.ever), (None, {}))
            network.restart(network.names[0])
            self.serve(network, "ann")
            same(self, network.walkers["ann"].told, ("done", 0))

    def test_a_later_hand_walks_along_all_that_was_chosen(self):
        network = Network(self, settings_of(3), ("ann", "bob"))
        for word, body in COMMANDS:
            network.submit("ann", word, body)
            self.serve(network, "ann", 0)
        network.letters.clear()
        network.submit("bob", "list", ((),))
        self.serve(network, "bob")
        row = tuple(network.ever[slot] for slot in range(len(COMMANDS) + 1))
        same(self, network.walkers["bob"].rows, row)
        same(self, network.walkers["bob"].told, (answers_of(network.settings, row)[-1], len(COMMANDS)))

    def test_where_a_greater_ballot_was_promised(self):
        for servers in (1, 3, 5, 7):
            for word in ("ask", "set"):
                network = Network(self, settings_of(servers), ("ann", "bob"))
                network.submit("bob", "make", (("b",),))
                network.letters.clear()
                for number in range(servers):
                    letter = ("bob", network.names[number], "ask", (0, (number, "bob")))
                    network.give(letter)
                if word == "set":
                    network.give(("bob", network.names[-1], "set", (0, (servers, "bob"), (("bob", 0), "idle", ()))))
                network.letters.clear()
                network.submit("ann", "make", (("a",),))
                self.serve(network, "ann")
                self.assertEqual(network.walkers["ann"].told[0], "done")

    def test_two_hands_in_turn(self):
        network = Network(self, settings_of(3), ("ann", "bob"))
        for count in range(20):
            network.submit("ann", *COMMANDS[count % 10])
            network.submit("bob", *COMMANDS[(3 * count + 1) % 10])
            while network.letters:
                network.give(network.letters.pop(0))
            for hand in ("ann", "bob"):
                self.serve(network, hand)
        same(self, network.ends, 40)

    def test_a_hand_that_is_behind_a_fold(self):
        for servers in (1, 3, 5, 7):
            network = Network(self, settings_of(servers), ("ann", "bob", "cyd"))
            network.submit("bob", "make", (("b",),))
            network.letters.clear()
            for word, body in COMMANDS:
                network.submit("ann", word, body)
                self.serve(network, "ann")
            network.letters.clear()
            network.fold("ann", network.names)
            while network.letters:
                network.give(network.letters.pop(0))
            for hand, slot in (("bob", 10), ("cyd", 11), ("ann", 12)):
                if hand != "bob":
                    network.submit(hand, "idle", ())
                self.serve(network, hand)
                walker = network.walkers[hand]
                same(self, walker.told[1], slot)
                same(self, walker.start, 0 if hand == "ann" else 10)


class Rough(unittest.TestCase):
    """Letters are lost, doubled and late, servers fall at any step with any lot, and hands fold."""

    def lot(self, dice):
        return [place for place in range(12) if dice.randrange(2)]

    def do_some(self, network, dice):
        hand = dice.choice(list(network.walkers))
        server = dice.choice(network.names)
        kind = dice.randrange(100)
        if kind < 88 and network.letters:
            at = dice.randrange(len(network.letters)) if dice.randrange(3) == 0 else 0
            letter = network.letters[at]
            if dice.randrange(10):
                del network.letters[at]
            fuse = dice.randrange(6) if dice.randrange(20) == 0 else None
            network.give(letter, fuse, self.lot(dice))
        elif kind < 91 and network.letters:
            del network.letters[dice.randrange(len(network.letters))]
        elif kind < 92 and network.servers[server] is not None:
            network.crash(server)
        elif kind < 96 and network.servers[server] is None:
            network.restart(server, dice.choice((None, None, 0, 1, 2)), self.lot(dice))
        elif kind == 96:
            network.fold(hand, dice.sample(network.names, dice.randrange(1, len(network.names) + 1)))
        elif network.is_busy(hand):
            if len(network.letters) < 4:
                network.nudge(hand)
        else:
            network.submit(hand, *dice.choice(COMMANDS))
        # Letters that are very late come up again and again: no more than this many are kept.
        while len(network.letters) > 60:
            del network.letters[dice.randrange(len(network.letters))]

    def settle(self, network):
        """From now on all is quiet: each hand comes to its end, one after the other."""
        network.letters.clear()
        for server in network.names:
            if network.servers[server] is None:
                network.restart(server)
        for hand, walker in network.walkers.items():
            if network.is_busy(hand):
                network.nudge(hand)
                Quiet.serve(self, network, hand)
            network.letters.clear()
            network.submit(hand, "idle", ())
            Quiet.serve(self, network, hand)
            network.letters.clear()
            same(self, walker.told[0], "idle")
            row = [network.ever[slot] for slot in range(walker.told[1] + 1)]
            same(self, state_tuple(walker.state), state_tuple(state_behind(network.settings, row)))

    def run_one(self, seed, servers, hands, deeds, size, width):
        dice = random.Random(seed)
        network = Network(self, settings_of(servers, size, width), hands)
        for _ in range(deeds):
            self.do_some(network, dice)
        return network

    def test_runs(self):
        ends = folds = 0
        for seed in range(60):
            servers = (3, 5, 1, 7)[seed % 4]
            hands = (("ann", "bob"), ("ann", "bob", "cyd"), ("ann", "a", "bob", "zoe"))[seed % 3]
            network = self.run_one(seed, servers, hands, 500, 400, 1 + seed % 3)
            self.settle(network)
            ends += network.ends
            folds += any(fold[0] for _, fold in network.seen.values())
        self.assertGreater(ends, 500)
        self.assertGreater(folds, 20)

    def test_runs_on_small_disks(self):
        ends = 0
        for seed in range(40):
            size = (13, 21, 41, 61)[seed % 4]
            network = self.run_one(1000 + seed, (3, 5)[seed % 2], ("ann", "bob", "cyd"), 400, size, 1 + seed % 2)
            ends += network.ends
        self.assertGreater(ends, 40)


if __name__ == "__main__":
    unittest.main()
