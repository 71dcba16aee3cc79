"""Scrubbing and sweeping: deeds along the writes of which a shelf holds pieces."""

from keptfiles.errands import Errand
from keptfiles.machine import standing


class Round(Errand):
    """A deed that goes from write to write; a class below has look_at, and puts what it did among done."""

    def __init__(self, course, shelf):
        Errand.__init__(self, course, shelf)
        self.done = []
        self._at = 0

    def set_out(self):
        """Walks to the end of the book first."""
        return self.say("idle", ())

    def go_on(self, _):
        """Looks at the present write: at the first one, or again."""
        counts = {write: count for write, count in standing(self.course.walker.state)}
        while self._at < len(self.writes):
            letters = self.look_at(self.present(), counts)
            if letters is not None:
                return letters
            self._at += 1
        return self.course.end(tuple(self.done))

    def present(self):
        """The write that it is at."""
        return self.writes[self._at]

    def leave(self, is_done):
        """Goes on behind the present write."""
        if is_done:
            self.done.append(self.present())
        self._at += 1
        return self.go_on(None)


class Scrubbing(Round):
    """Puts the right pieces of the writes that stand where the disk was spoiled."""

    def look_at(self, write, counts):
        """Gathers a write that stands; None for any other."""
        if write not in counts:
            return None
        return self.gather((write, counts[write]))

    def bring(self, letters):
        """Lets the shelf compare its piece with the right one."""
        return self.ask("fixed", "fix", (self.turn, self.present(), self.own_piece(letters)))

    def take(self, body):
        """The shelf has the right piece now."""
        turn, write, was = body
        if turn != self.turn or write != self.present():
            return ()
        return self.leave(was == 1)


class Sweeping(Round):
    """Takes away the pieces of writes that will never stand again."""

    def look_at(self, write, counts):
        """Drops a write that is gone, bars one that nobody knows; None for one that stands."""
        if write in counts:
            return None
        state = self.course.walker.state
        if write in state.used or write in state.barred:
            return self.ask("gone", "drop", (self.turn, write))
        return self.say("bar", (write,))

    def take(self, body):
        """The shelf has no piece of it any more."""
        if body != (self.turn, self.present()):
            return ()
        return self.leave(True)
