"""What mending, scrubbing and sweeping share: a deed at one shelf, which first tells what it holds."""

from keptfiles.code import piece_of
from keptfiles.gathering import Gathering


class Errand:
    """Waits for one answer at a time: of the shelf, of a gathering, or to a command.

    A class below has set_out (behind the telling), go_on (behind a command), bring (behind a gathering)
    and take (an answer of the shelf).
    """

    def __init__(self, course, shelf):
        self.course = course
        self.shelf = shelf
        self.turn = None
        self.life = None
        self.writes = ()
        # None as long as a command is open: then no letter of a shelf means anything.
        self.awaited = None
        self._asked = ()
        self._gathering = None

    def begin(self):
        """Asks the shelf what it holds."""
        self.turn = self.course.next_turn()
        return self.ask("holds", "tell", (self.turn,))

    def ask(self, answer, word, body):
        """A letter to the shelf, which it answers with the word answer."""
        self.awaited = answer
        self._asked = self.course.letters_to((self.shelf,), word, body)
        return self._asked

    def gather(self, row):
        """Gathers the letters of a row."""
        self.awaited = "piece"
        self._gathering = Gathering(self.course, row)
        return self._gathering.begin()

    def say(self, word, body):
        """Says a command."""
        self.awaited = None
        return self.course.say(word, body)

    def hear(self, letter):
        """Hears what it waits for, and nothing else."""
        source, _, word, body = letter
        if word != self.awaited:
            return ()
        if word == "piece":
            letters = self._gathering.hear(letter)
            return () if letters is None else self.bring(letters)
        if source != self.shelf:
            return ()
        if word != "holds":
            return self.take(body)
        if body[0] != self.turn:
            return ()
        self.life, self.writes = body[1:]
        return self.set_out()

    def nudge(self):
        """Asks once more; a gathering is given up, for the write may be gone by now."""
        if self.awaited == "piece":
            return self.say("idle", ())
        return self._asked

    def own_piece(self, letters):
        """The piece of the shelf."""
        return piece_of(letters, self.course.all_shelves.index(self.shelf) + 1, self.course.settings)
