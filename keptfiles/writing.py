"""The deed that writes: it puts pieces on the shelves, and commits the write when enough of them keep theirs."""

from keptfiles.code import pieces_of
from keptfiles.machine import life_in


class Writing:
    """Makes letters the row with a number of a file."""

    def __init__(self, course, path, number, letters):
        self._course = course
        self._path = path
        self._number = number
        self._count = len(letters)
        pieces = pieces_of(letters, course.settings)
        self._pieces = {shelf: piece for shelf, piece in zip(course.all_shelves, pieces)}
        self._write_name = None
        self._marks = {}

    def begin(self):
        """A new write, of which no shelf keeps anything yet."""
        self._write_name = self._course.next_write()
        self._marks = {}
        return self._puts(self._course.all_shelves)

    def go_on(self, answer):
        """Behind a "life" or a "commit"."""
        if answer in ("known", "old", "new", "few"):
            return self._advance()
        if answer == "barred":
            return self.begin()
        return self._course.end(answer)

    def hear(self, letter):
        """Takes a mark, also while a command is open."""
        source, _, word, body = letter
        if word != "kept" or source not in self._pieces or body[0] != self._write_name:
            return ()
        life = body[1]
        if life < self._life_of(source) or life <= self._marks.get(source, -1):
            return ()
        self._marks[source] = life
        if self._course.is_open:
            return ()
        return self._advance()

    def nudge(self):
        """The pieces once more, to all shelves without a mark."""
        return self._puts([shelf for shelf in self._pieces if shelf not in self._marks])

    def _advance(self):
        """Forgets the marks of elder lives, and says the next command if there are enough others."""
        wiped = [shelf for shelf, life in self._told_marks() if life < self._life_of(shelf)]
        for shelf in wiped:
            del self._marks[shelf]
        letters = self._puts(wiped)
        marks = self._told_marks()
        if len(marks) < self._course.settings.need:
            return letters
        # A commit counts only lives that the book knows.
        unknown = [mark for mark in marks if mark[1] > self._life_of(mark[0])]
        if len(unknown) > 0:
            return letters + self._course.say("life", unknown[0])
        return letters + self._course.say("commit", (self._path, self._number, self._write_name, self._count, marks))

    def _puts(self, shelves):
        letters = []
        for shelf in shelves:
            letters.append((self._course.name, shelf, "put", (self._write_name, self._pieces[shelf])))
        return tuple(letters)

    def _told_marks(self):
        """The marks, shelves in order."""
        return tuple([(shelf, self._marks[shelf]) for shelf in self._pieces if shelf in self._marks])

    def _life_of(self, shelf):
        """The life of a shelf as far as the hand knows the book."""
        life, _ = life_in(self._course.walker.state, shelf)
        return life
