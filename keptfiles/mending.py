"""Mending: a shelf that was wiped gets its pieces of all writes that stand; and what is left to do on shelves."""

from keptfiles.errands import Errand
from keptfiles.machine import life_in, standing


def missing(state, writes):
    """The rows that stand and of whose writes a shelf with these writes has no piece."""
    known = {write: True for write in writes}
    return tuple([row for row in standing(state) if row[0] not in known])


def dead(state, writes):
    """Those of the writes that will never stand again."""
    stands = {write: True for write, _ in standing(state)}
    gone = {write: True for write in state.used + state.barred if write not in stands}
    return tuple([write for write in writes if write in gone])


def strange(state, writes):
    """Those of the writes of which the book tells nothing yet."""
    known = {write: True for write in state.used + state.barred}
    return tuple([write for write in writes if write not in known])


def undone(state, rows):
    """How much is left to do on shelves; rows are triples (shelf, life, writes)."""
    many = 0
    for shelf, life, writes in rows:
        many += len(missing(state, writes)) + len(dead(state, writes)) + len(strange(state, writes))
        if life_in(state, shelf) != (life, True):
            many += 1
    return many


class Mending(Errand):
    """The deed that brings a shelf its pieces, and then says in the book that it is whole."""

    def __init__(self, course, shelf):
        Errand.__init__(self, course, shelf)
        self._missing = None
        self._brought = {}
        self._present = None

    def set_out(self):
        """Tells the book the life of the shelf."""
        self._missing = None
        self._brought = {}
        return self.say("life", (self.shelf, self.life))

    def go_on(self, answer):
        """Behind a "life", an "idle" or a "whole"."""
        if answer == "whole":
            return self.course.end("whole")
        state = self.course.walker.state
        life, _ = life_in(state, self.shelf)
        if answer == "other" or life != self.life:
            return self.begin()
        if self._missing is None:
            self._missing = missing(state, self.writes)
        return self._go_along()

    def bring(self, letters):
        """Brings the shelf its piece of the present write."""
        return self.ask("kept", "put", (self._present, self.own_piece(letters)))

    def take(self, body):
        """The shelf keeps its piece, perhaps in another life."""
        write, life = body
        if write != self._present or life < self.life:
            return ()
        if life > self.life:
            return self.begin()
        self._brought[write] = True
        return self._go_along()

    def _go_along(self):
        """Gathers the next of the missing writes that still stands; without any the shelf is whole."""
        stands = set(standing(self.course.walker.state))
        for row in self._missing:
            if row[0] not in self._brought and row in stands:
                self._present = row[0]
                return self.gather(row)
        return self.say("whole", (self.shelf, self.life))
