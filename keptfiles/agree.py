"""A hand's way along the book: in each slot it asks and sets until something is chosen there."""

from keptfiles.errors import is_most, server_names
from keptfiles.machine import start_state, state_from, step


class Agree:
    """A hand's endeavour that something is chosen in a slot, its own command if it can."""

    def __init__(self, hand, servers, slot, command):
        self.slot = slot
        self.ballot = None
        self.found = None
        self._hand = hand
        self._servers = servers
        self._command = command
        self._remembered = None
        self._sets = False
        self._value = None
        self._counted = {}

    def begin(self, number=0):
        """Asks all servers, with the ballot of this number."""
        self.ballot = (number, self._hand)
        self._sets = False
        self._counted = {}
        return self._letters()

    def hear(self, letter):
        """The letters that follow from this one."""
        source, _, word, body = letter
        if self.found is not None or word not in ("yes", "have", "no"):
            return ()
        if source not in self._servers or body[0] != self.slot:
            return ()
        if word == "no":
            self._remember(body[2])
            return ()
        # A server's first answer counts; "yes" says nothing more to one that sets already.
        if body[1] != self.ballot or (word == "have") != self._sets or source in self._counted:
            return ()
        self._counted[source] = body[2:]
        if not is_most(len(self._counted), len(self._servers)):
            return ()
        return self._go_on()

    def nudge(self):
        """Begins anew above what is remembered, or asks or sets once more."""
        if self.found is not None:
            return ()
        if self._remembered is not None and self._remembered > self.ballot:
            return self.begin(self._remembered[0] + 1)
        return self._letters()

    def _letters(self):
        """The letters of what it does, to the servers whose answers are not counted."""
        word, body = "ask", (self.slot, self.ballot)
        if self._sets:
            word, body = "set", (self.slot, self.ballot, self._value)
        waits = [server for server in self._servers if server not in self._counted]
        return tuple([(self._hand, server, word, body) for server in waits])

    def _remember(self, promised):
        if promised > self.ballot and (self._remembered is None or promised > self._remembered):
            self._remembered = promised

    def _go_on(self):
        """More than half have answered."""
        if self._sets:
            self.found = self._value
            return ()
        self._value = self._value_to_set()
        self._sets = True
        self._counted = {}
        return self._letters()

    def _value_to_set(self):
        """That of the greatest elder ballot that was counted; without any, its own command."""
        greatest, told = None, self._command
        for elder, value in self._counted.values():
            if elder is not None and (greatest is None or elder > greatest):
                greatest, told = elder, value
        return told


class Walker:
    """A hand's way along the book, from the slot start on; below it, it knows the State alone."""

    def __init__(self, hand, settings):
        self.owner = hand
        self.start = 0
        self.rows = ()
        self.state = start_state(settings)
        self.told = None
        self._settings = settings
        self._count = 0
        self._command = None
        self._agree = None

    def submit(self, word, body):
        """The next command: it is open until told is there."""
        self._command = ((self.owner, self._count), word, body)
        self._count += 1
        self.told = None
        return self._begin()

    def hear(self, letter):
        """The letters that follow from this one."""
        if self._agree is None:
            return ()
        if self._is_past(letter):
            _, fold, data = letter[3]
            return self._skip_to(fold, data)
        letters = self._agree.hear(letter)
        if self._agree.found is None:
            return letters
        return self._walk_on(self._agree.found)

    def nudge(self):
        """What the present Agree sends when it is nudged."""
        if self._agree is None:
            return ()
        return self._agree.nudge()

    def _begin(self):
        """Asks for the open command in the next slot."""
        servers = server_names(self._settings)
        self._agree = Agree(self.owner, servers, self.start + len(self.rows), self._command)
        return self._agree.begin()

    def _is_past(self, letter):
        """Whether a letter tells that the present slot is folded."""
        source, _, word, body = letter
        if word != "past" or source not in server_names(self._settings):
            return False
        return body[0] == self._agree.slot and body[1] > self._agree.slot

    def _skip_to(self, fold, data):
        self.start = fold
        self.rows = ()
        self.state = state_from(self._settings, data)
        for hand, count, answer, slot in self.state.last:
            if (hand, count) == self._command[0]:
                return self._close(answer, slot)
        return self._begin()

    def _walk_on(self, found):
        """Something was found in the present slot."""
        self.rows = self.rows + (found,)
        self.state, answer = step(self.state, found)
        if found == self._command:
            return self._close(answer, self._agree.slot)
        return self._begin()

    def _close(self, answer, slot):
        """The open command is over."""
        self.told = (answer, slot)
        self._agree = None
        return ()
