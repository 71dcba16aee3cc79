"""What all deeds of a hand share, and the deeds that need no shelf.

A deed is an object with begin, go_on (behind the answer to a command), hear (of all letters that the
walker does not hear) and nudge (without an open command). Each of these returns the letters that are sent.
"""

from keptfiles.agree import Walker
from keptfiles.errors import is_most, server_names, shelf_names
from keptfiles.machine import state_data


class Course:
    """A hand's way from deed to deed: its walker, and what it counts over its whole life."""

    def __init__(self, name, settings):
        self.name = name
        self.settings = settings
        self.all_servers = server_names(settings)
        self.all_shelves = shelf_names(settings)
        self.walker = Walker(name, settings)
        self.is_open = False
        self.outcome = None
        self._writes = 0
        self._turns = 0

    def next_write(self):
        """The next name of a write."""
        self._writes += 1
        return self.name, self._writes - 1

    def next_turn(self):
        """The next turn."""
        self._turns += 1
        return self._turns - 1

    def say(self, word, body):
        """Submits a command; it is open until the walker tells its answer."""
        self.is_open = True
        return self.walker.submit(word, body)

    def end(self, answer):
        """The deed is over; nothing is sent any more."""
        self.outcome = (answer, self.walker.told[1])
        return ()

    def letters_to(self, targets, word, body):
        """A letter to each of these machines."""
        return tuple([(self.name, target, word, body) for target in targets])


class Saying:
    """A deed that says one command, which has the word and the body of the deed."""

    def __init__(self, course, deed):
        self._course = course
        self._deed = deed

    def begin(self):
        """Says the command."""
        return self._course.say(self._deed[0], self._deed[1:])

    def go_on(self, answer):
        """The answer to the command is that to the deed."""
        return self._course.end(answer)

    def hear(self, _):
        """No other letter means anything."""
        return ()

    def nudge(self):
        """Nothing is left to do."""
        return ()


class Folding:
    """The deed that lets the book servers forget the slots that the hand knows."""

    def __init__(self, course):
        self._course = course
        self._body = None
        self._counted = {}

    def begin(self):
        """Walks to the end of the book."""
        return self._course.say("idle", ())

    def go_on(self, _):
        """Tells all book servers the State."""
        walker = self._course.walker
        self._body = (walker.start + len(walker.rows), state_data(walker.state))
        return self.nudge()

    def hear(self, letter):
        """Counts the servers that have folded."""
        source, _, word, body = letter
        if word != "folded" or source not in self._course.all_servers or body[0] < self._body[0]:
            return ()
        self._counted[source] = True
        if is_most(len(self._counted), len(self._course.all_servers)):
            return self._course.end("folded")
        return ()

    def nudge(self):
        """Tells the servers that are not counted the State, once more."""
        waits = [server for server in self._course.all_servers if server not in self._counted]
        return self._course.letters_to(waits, "fold", self._body)
