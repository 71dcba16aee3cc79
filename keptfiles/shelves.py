"""A shelf: a machine that keeps, on its disk, its pieces of writes and the life that it began with.

What it keeps lies under the keys ("life",) and ("piece", write).
"""

from keptfiles.errors import Full
from keptfiles.keeper import Keeper, kept

LIFE = ("life",)


def key_of_piece(write):
    """The key under which a shelf keeps its piece of a write."""
    return ("piece", write)


def writes_in(keys):
    """The names of the writes among the keys of a shelf's map, ascending."""
    return sorted([key[1] for key in keys if key[:1] == ("piece",)])


def held(blocks):
    """The pairs (write, piece) of all pieces that the blocks of a shelf's disk tell, writes ascending."""
    pairs = kept(blocks)
    return tuple([(write, pairs[key_of_piece(write)]) for write in writes_in(list(pairs))])


def life_on(blocks):
    """The life that the blocks of a shelf's disk tell, or None."""
    cells = kept(blocks).get(LIFE)
    return None if cells is None else cells[0]


class Shelf:
    """A machine that keeps pieces; it answers nothing that is not flushed."""

    def __init__(self, name, disk, width, life):
        self.name = name
        self.disk = disk
        self.keeper = Keeper(disk, width)
        if self.keeper.get(LIFE) is None:
            self.keeper.put(LIFE, (life,))
            self.keeper.flush()
        self.life = self.keeper.get(LIFE)[0]

    def hear(self, letter):
        """The letters that the shelf sends when it hears this one: one or none."""
        source, _, word, body = letter
        answer = self._answer(word, body)
        if answer is None:
            return ()
        return ((self.name, source) + answer,)

    def _answer(self, word, body):
        """The pair (word, body) of the answer, None if there is none."""
        if word == "put":
            return self._answer_put(body)
        if word == "get":
            return self._answer_get(body)
        if word == "tell":
            return self._answer_tell(body)
        if word == "drop":
            return self._answer_drop(body)
        if word == "fix":
            return self._answer_fix(body)
        return None

    def _answer_put(self, body):
        write, piece = body
        if self._piece_of(write) is None:
            try:
                self._put_flushed(write, piece)
            except Full:
                return "full", (write, self.life)
        return "kept", (write, self.life)

    def _answer_get(self, body):
        turn, write = body
        return "piece", (turn, write, self._piece_of(write), self.life)

    def _answer_tell(self, body):
        writes = writes_in([key for key, _ in self.keeper.pairs()])
        return "holds", (body[0], self.life, tuple(writes))

    def _answer_drop(self, body):
        turn, write = body
        if self.keeper.drop(key_of_piece(write)):
            self.keeper.flush()
        return "gone", (turn, write)

    def _answer_fix(self, body):
        turn, write, piece = body
        elder = self._piece_of(write)
        if elder is None or elder == piece:
            return "fixed", (turn, write, 0)
        self._put_flushed(write, piece)
        return "fixed", (turn, write, 1)

    def _piece_of(self, write):
        return self.keeper.get(key_of_piece(write))

    def _put_flushed(self, write, piece):
        self.keeper.put(key_of_piece(write), piece)
        self.keeper.flush()
