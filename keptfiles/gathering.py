"""A gathering: the pieces that shelves keep of a write tell its letters, and the deed that reads them."""

from keptfiles.code import letters_among


class Gathering:
    """Asks all shelves for their pieces of one row, (write, count), in a turn of its own."""

    def __init__(self, course, row):
        self._course = course
        self._write_name, self._count = row
        self._turn = course.next_turn()
        self._found = {}

    def begin(self):
        """The letters to all shelves."""
        return self._course.letters_to(self._course.all_shelves, "get", (self._turn, self._write_name))

    def hear(self, letter):
        """The letters of the write as soon as a letter "piece" makes them sure, otherwise None."""
        source, _, _, body = letter
        turn, _, piece, _ = body
        if turn != self._turn or piece is None or source in self._found or source not in self._course.all_shelves:
            return None
        self._found[source] = piece
        pairs = [(self._course.all_shelves.index(shelf) + 1, self._found[shelf]) for shelf in self._found]
        return letters_among(pairs, self._count, self._course.settings)


class Reading:
    """The deed that tells the letters of one row of a file."""

    def __init__(self, course, path, number):
        self._course = course
        self._body = (path, number)
        self._gathering = None

    def begin(self):
        """Looks which write stands there; what was gathered until now is given up."""
        self._gathering = None
        return self._course.say("look", self._body)

    def go_on(self, answer):
        """Gathers the write, if one stands there."""
        if isinstance(answer, str):
            return self._course.end(answer)
        self._gathering = Gathering(self._course, answer[1:])
        return self._gathering.begin()

    def hear(self, letter):
        """Takes pieces until they tell the letters."""
        if self._gathering is None or letter[2] != "piece":
            return ()
        letters = self._gathering.hear(letter)
        if letters is None:
            return ()
        return self._course.end(letters)

    def nudge(self):
        """Looks again: perhaps another write stands there by now."""
        return self.begin()
