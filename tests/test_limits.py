"""Promises [16], [23], [30], [41], [44]: what stands at the limits answers in reasonable time."""

import time
import unittest

from keptfiles.agree import Walker
from keptfiles.code import agree_on, letters_among, letters_of, pieces_of
from keptfiles.disk import Disk
from keptfiles.errors import Settings, server_names
from keptfiles.machine import (answers_of, rows_of, standing, start_state, state_behind, state_data, state_from,
                               step)
from keptfiles.synod import BookServer, book, chosen, fold_of, votes_of
from tests.helpers import same, state_tuple

SETTINGS = Settings(7, 8, 2, 1, 1, 11, 4000, 4)
NAMES = server_names(SETTINGS)
MARKS = tuple((f"s{number}", 0) for number in range(1, 9))
FILE = ("file",)
# Each of these takes a small part of this; what grows with a power too many takes far more.
SECONDS = 30


class Timed(unittest.TestCase):
    def setUp(self):
        self.began = time.perf_counter()

    def tearDown(self):
        self.assertLess(time.perf_counter() - self.began, SECONDS)


def servers_with(letters, width):
    """All book servers; each of them heard these letters (word, body)."""
    servers = [BookServer(name, Disk(SETTINGS.size), width) for name in NAMES]
    for word, body in letters:
        for server in servers:
            assert len(server.hear(("ann", server.name, word, body))) == 1
    return servers


class Servers(Timed):
    def test_a_slot_of_200_votes(self):
        for width in (1, 16):
            ballots = [(number // 2, ("ann", "bob")[number % 2]) for number in range(200)]
            server = BookServer("b1", Disk(SETTINGS.size), width)
            for ballot in ballots:
                same(self, server.hear((ballot[1], "b1", "set", (3, ballot, "x"))), (
                    ("b1", ballot[1], "have", (3, ballot)),))
            votes = tuple((ballot, "x") for ballot in ballots)
            same(self, server.keeper.get(("slot", 3)), (ballots[-1],) + votes)
            again = BookServer("b1", server.disk, width)
            same(self, again.hear(("cyd", "b1", "ask", (3, (100, "cyd")))), (
                ("b1", "cyd", "yes", (3, (100, "cyd"), (99, "bob"), "x")),))
            same(self, votes_of(server.disk.blocks)[3], ((100, "cyd"), votes))
            self.assertEqual(chosen([server.disk.blocks]), {3: "x"})

    def test_a_book_of_200_slots(self):
        values = tuple((("ann", count), "make", ((f"n{count}",),)) for count in range(200))
        letters = [("set", (50 + at, (0, "ann"), value)) for at, value in enumerate(values)]
        servers = servers_with([("fold", (50, "fifty"))] + letters, 2)
        rows = [server.disk.blocks for server in servers]
        self.assertEqual(chosen(rows), {50 + at: value for at, value in enumerate(values)})
        same(self, book(rows), (50, "fifty", values))
        for server in servers:
            same(self, server.hear(("ann", server.name, "fold", (250, "all"))), ((server.name, "ann", "folded", (250,)),))
            same(self, fold_of(server.disk.blocks), (250, "all"))
            same(self, server.keeper.pairs(), ((("fold",), (250, "all")),))


class Walkers(Timed):
    def serve(self, letters, walker, servers):
        """All letters are given until none is left."""
        letters = list(letters)
        while letters:
            letter = letters.pop(0)
            target = servers.get(letter[1], walker)
            letters.extend(target.hear(letter))

    def test_400_commands(self):
        servers = {name: BookServer(name, Disk(SETTINGS.size), 4) for name in NAMES[:3]}
        settings = Settings(3, 8, 2, 1, 1, 11, 4000, 4)
        first, second = Walker("ann", settings), Walker("bob", settings)
        for count in range(400):
            word, body = ("make", ((f"n{count % 99}",),)) if count % 2 else ("list", ((),))
            self.serve(first.submit(word, body), first, servers)
            same(self, first.told[1], count)
            if count == 199:
                body = (200, state_data(first.state))
                self.serve([("ann", name, "fold", body) for name in servers], first, servers)
        same(self, len(first.rows), 400)
        letters = second.submit("idle", ())
        while second.told is None:
            self.serve(letters, second, servers)
            letters = second.nudge()
        same(self, (second.start, second.told, second.rows[:-1]), (200, ("idle", 400), first.rows[200:]))
        same(self, state_tuple(second.state), state_tuple(state_behind(settings, first.rows + second.rows[-1:])))


class States(Timed):
    def test_a_tree_of_100_paths(self):
        tower = [("a",) * many for many in range(1, 100)]
        commands = [(("ann", count), "make", (path,)) for count, path in enumerate(tower)]
        state = state_behind(SETTINGS, commands)
        same(self, state.tree, (((), None),) + tuple((path, None) for path in tower))
        state, answer = step(state, (("ann", 99), "move", (("a",), ("b",))))
        same(self, answer, "done")
        same(self, state.tree, (((), None),) + tuple((("b",) + path[1:], None) for path in tower))
        state, answer = step(state, (("ann", 100), "move", (("b", "a"), ("a",))))
        same(self, answer, "done")
        same(self, state.tree[-1], (("b",), None))
        same(self, state.tree[1:-1], tuple((path, None) for path in tower[:98]))

    def test_paths_of_200_names(self):
        path = ("abcdefghijkl",) * 200
        commands = [(("ann", count), word, body) for count, (word, body) in enumerate((
            ("make", (path,)), ("list", (path,)), ("move", (path, path)), ("move", ((), path)), ("drop", (path,)),
            ("look", (path, 0)), ("size", (path,)), ("cut", (path, 0)), ("commit", (path, 0, ("ann", 0), 0, ())),
            ("make", (path + ("A",),))))]
        same(self, answers_of(SETTINGS, commands), ("folder", "none", "none", "root", "none", "none", "none", "none",
                                                    "none", "wrong"))
        self.assertIsNone(rows_of(start_state(SETTINGS), path))

    def test_1000_commands_and_a_file_of_100_rows(self):
        commands = [(("ann", 0), "file", (FILE,))]
        for count in range(1, 1000):
            body = (FILE, (count - 1) % 100, ("ann", count), count, MARKS * 2)
            commands.append((("ann", count), "commit", body))
        same(self, answers_of(SETTINGS, commands), ("done",) * 1000)
        state = state_behind(SETTINGS, commands)
        same(self, rows_of(state, FILE), tuple((("ann", count), count) for count in (*range(901, 1000), 900)))
        same(self, standing(state), tuple((("ann", count), count) for count in range(900, 1000)))
        same(self, len(state.used), 999)
        same(self, state.last, (("ann", 999, "done", 999),))
        same(self, state_tuple(state_from(SETTINGS, state_data(state))), state_tuple(state))

    def test_1000_hands(self):
        commands = [((f"h{number}", 0), "idle", ()) for number in range(1000)]
        state = state_behind(SETTINGS, commands)
        same(self, state.last, tuple(sorted((f"h{number}", 0, "idle", number) for number in range(1000))))


class Letters(Timed):
    def test_as_many_as_a_disk_has_room_for(self):
        settings = Settings(1, 8, 4, 2, 0, 999983, 4000, 16)
        letters = tuple((at * at) % 999983 for at in range(8000))
        pieces = pieces_of(letters, settings)
        pairs = [(number + 1, piece) for number, piece in enumerate(pieces)]
        same(self, letters_of(pairs, 8000, settings), letters)
        same(self, agree_on(pairs, 8000, settings), True)
        wrong = [(1, (5,) + pieces[0][1:]), (2, pieces[2])] + pairs[2:]
        same(self, letters_among(wrong, 8000, settings), letters)
        same(self, agree_on(wrong, 8000, settings), False)


if __name__ == "__main__":
    unittest.main()
