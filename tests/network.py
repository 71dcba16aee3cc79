"""Hands and book servers with letters between them; each fact of [22] and [29] is looked at behind every deed."""

from keptfiles.agree import Walker
from keptfiles.disk import Disk
from keptfiles.errors import Fallen, server_names
from keptfiles.keeper import kept
from keptfiles.machine import answers_of, state_behind, state_data
from keptfiles.synod import BookServer, book, chosen
from tests.helpers import same, state_tuple

FOLD = ("fold",)
COMMANDS = (("make", (("a",),)), ("make", (("b",),)), ("file", (("a", "c"),)), ("drop", (("a",),)), ("list", ((),)),
            ("move", (("a",), ("b",))), ("idle", ()), ("what", ()), ("life", ("s1", 1)), ("bar", (("ann", 3),)))


class Network:
    def __init__(self, case, settings, hands):
        self.case = case
        self.settings = settings
        self.names = server_names(settings)
        self.disks = {name: Disk(settings.size) for name in self.names}
        self.servers = {name: BookServer(name, disk, settings.width) for name, disk in self.disks.items()}
        self.walkers = {name: Walker(name, settings) for name in hands}
        self.letters = []
        self.slots = {name: -1 for name in hands}
        self.told = {name: None for name in hands}
        self.ever = {}
        self.floor = {}
        self.greatest_told = -1
        self.values = {}
        self.ballots = {}
        self.seen = {name: ({}, (0, None)) for name in self.names}
        self.blocks = {name: None for name in self.names}
        self.ends = 0

    # What happens.

    def is_busy(self, hand):
        return self.count_of(hand) > 0 and self.walkers[hand].told is None

    def submit(self, hand, word, body):
        walker = self.walkers[hand]
        self.floor[hand, self.count_of(hand)] = self.greatest_told
        self.told[hand] = None
        self.send_of_hand(hand, walker.submit(word, body), True)

    def count_of(self, hand):
        return len([1 for name, _ in self.floor if name == hand])

    def nudge(self, hand):
        self.send_of_hand(hand, self.walkers[hand].nudge(), False)

    def fold(self, hand, targets):
        """The hand lets servers forget what it knows."""
        walker = self.walkers[hand]
        body = (walker.start + len(walker.rows), state_data(walker.state))
        self.letters.extend((hand, server, "fold", body) for server in targets)

    def crash(self, server, lot=()):
        self.servers[server] = None
        self.disks[server].fall([place for place in lot if place < len(self.disks[server].waiting)])
        self.check_disk(server)

    def restart(self, server, fuse=None, lot=()):
        disk = self.disks[server]
        disk.set_fuse(fuse)
        try:
            self.servers[server] = BookServer(server, disk, self.settings.width)
        except Fallen:
            self.crash(server, lot)
            return
        disk.set_fuse(None)
        self.check_disk(server)

    def give(self, letter, fuse=None, lot=()):
        """The target hears a letter; a server may fall meanwhile."""
        target = letter[1]
        if target in self.walkers:
            self.send_of_hand(target, self.walkers[target].hear(letter), True)
        elif self.servers[target] is not None:
            self.hear(target, letter, fuse, lot)

    def hear(self, target, letter, fuse, lot):
        self.disks[target].set_fuse(fuse)
        try:
            letters = self.servers[target].hear(letter)
        except Fallen:
            self.crash(target, lot)
            return
        self.disks[target].set_fuse(None)
        self.case.assertEqual(self.disks[target].waiting, ())
        self.check_disk(target)
        for answer in letters:
            self.check_answer(target, answer)
        self.letters.extend(letters)

    # What is looked at.

    def send_of_hand(self, hand, letters, may_begin):
        walker = self.walkers[hand]
        for source, target, word, body in letters:
            self.case.assertEqual(source, hand)
            self.case.assertIn(target, self.names)
            self.case.assertIn(word, ("ask", "set"))
            slot = body[0]
            self.case.assertEqual(slot, walker.start + len(walker.rows))
            self.case.assertTrue(all(below in self.ever for below in range(slot)))
            self.case.assertGreaterEqual(slot, self.slots[hand])
            if slot > self.slots[hand]:
                self.case.assertTrue(may_begin)
                self.case.assertEqual((word, body[1]), ("ask", (0, hand)))
        if letters:
            self.slots[hand] = letters[0][3][0]
        self.letters.extend(letters)
        self.check_walker(hand)

    def check_walker(self, hand):
        walker = self.walkers[hand]
        known = walker.start + len(walker.rows)
        row = [self.ever[slot] for slot in range(known)]
        same(self.case, walker.rows, tuple(row[walker.start:]))
        same(self.case, state_tuple(walker.state), state_tuple(state_behind(self.settings, row)))
        if walker.told is not None and self.told[hand] is None:
            answer, slot = walker.told
            self.told[hand] = walker.told
            self.ends += 1
            same(self.case, row[slot][0], (hand, self.count_of(hand) - 1))
            same(self.case, answer, answers_of(self.settings, row)[slot])
            self.greatest_told = max(self.greatest_told, slot)

    def check_answer(self, server, letter):
        """What a letter says lies on the flushed disk."""
        source, _, word, body = letter
        self.case.assertEqual(source, server)
        promises, fold = self.seen[server]
        if word == "past":
            self.case.assertEqual(body[1:], fold)
            self.case.assertLess(body[0], fold[0])
        elif word == "folded":
            self.case.assertEqual(body, fold[:1])
        elif word == "yes":
            promised, votes = promises[body[0]]
            self.case.assertEqual(promised, body[1])
            self.case.assertEqual(body[2:], votes[-1] if votes else (None, None))
        elif word == "have":
            self.case.assertEqual(promises[body[0]][0], body[1])
            self.case.assertEqual(promises[body[0]][1][-1][0], body[1])
        else:
            self.case.assertEqual(word, "no")
            self.case.assertEqual(promises[body[0]][0], body[2])
            self.case.assertGreater(body[2], body[1])

    def check_disk(self, server):
        """A disk may have changed: nothing goes back on it, and what is chosen stays."""
        blocks = self.disks[server].blocks
        if blocks == self.blocks[server]:
            return
        self.blocks[server] = blocks
        pairs = kept(blocks)
        fold = pairs.pop(FOLD, (0, None))
        promises = {slot: (cells[0], cells[1:]) for (_, slot), cells in pairs.items() if slot >= fold[0]}
        elder, elder_fold = self.seen[server]
        self.case.assertGreaterEqual(fold[0], elder_fold[0])
        if fold[0] == elder_fold[0]:
            self.case.assertEqual(fold, elder_fold)
        else:
            row = [self.ever[slot] for slot in range(fold[0])]
            same(self.case, fold[1], state_data(state_behind(self.settings, row)))
        for slot, (promised, votes) in elder.items():
            if slot >= fold[0]:
                self.case.assertGreaterEqual(promises[slot][0], promised)
                self.case.assertEqual(promises[slot][1][:len(votes)], votes)
        self.seen[server] = (promises, fold)
        self.check_votes(promises)
        self.check_chosen()

    def check_votes(self, promises):
        for slot, (promised, votes) in promises.items():
            ballots = [ballot for ballot, _ in votes]
            self.case.assertEqual(ballots, sorted(set(ballots)))
            for ballot, value in votes:
                self.case.assertLessEqual(ballot, promised)
                self.case.assertEqual(self.values.setdefault((slot, ballot), value), value)

    def check_chosen(self):
        many = {}
        for promises, _ in self.seen.values():
            for slot, (_, votes) in promises.items():
                for ballot, _ in votes:
                    many[slot, ballot] = many.get((slot, ballot), 0) + 1
        now = {}
        for (slot, ballot), count in many.items():
            if count > len(self.names) // 2:
                now[slot] = self.values[slot, ballot]
                self.case.assertEqual(self.ever.setdefault(slot, now[slot]), now[slot])
                self.ballots[slot] = min(ballot, self.ballots.get(slot, ballot))
        for (slot, ballot), value in self.values.items():
            if slot in self.ballots and ballot > self.ballots[slot]:
                self.case.assertEqual(value, self.ever[slot])
        rows = [self.disks[name].blocks for name in self.names]
        self.case.assertEqual(chosen(rows), now)
        folds = [fold for _, fold in self.seen.values()]
        start, data = max(folds, key=lambda fold: fold[0])
        end = start
        while end in now:
            end += 1
        same(self.case, book(rows), (start, data, tuple(now[slot] for slot in range(start, end))))
        self.case.assertLessEqual({slot for slot in self.ever if slot >= start}, set(now))
        self.check_ever()

    def check_ever(self):
        commands = [command[0] for _, command in sorted(self.ever.items())]
        self.case.assertEqual(sorted(self.ever), list(range(len(commands))))
        self.case.assertEqual(len(set(commands)), len(commands))
        for slot, command in self.ever.items():
            self.case.assertGreater(slot, self.floor[command[0]])
