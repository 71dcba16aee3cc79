"""What was read off the disks of a world, kept so that only what has changed since is read again."""

from keptfiles.code import letters_among
from keptfiles.errors import server_names, shelf_names
from keptfiles.keeper import change, entry_of, row_of, spans_from
from keptfiles.machine import start_state, state_from, step
from keptfiles.shelves import key_of_piece
from keptfiles.synod import book_in


class Log:
    """The map of one disk; records that were read stay read as long as their blocks are the same."""

    def __init__(self):
        self.contents = {}
        self._root = None
        self._known = ()
        self._least = 0

    def catch_up(self, blocks):
        """Reads what the blocks tell now."""
        if not self._goes_on(blocks):
            self.contents = {}
            self._known = ()
            self._least = 0 if blocks[0] is None else blocks[0][3]
        self._root = blocks[0]
        if blocks[0] is not None:
            self._read_on(row_of(blocks), spans_from(blocks, len(self._known), self._least))

    def _goes_on(self, blocks):
        """Whether all that was read would be read again."""
        if self._root is None or blocks[0] is None:
            return False
        generation, half, run, base = self._root
        now_generation, now_half, now_run, now_base = blocks[0]
        if (generation, half, base) != (now_generation, now_half, now_base) or run > now_run:
            return False
        return row_of(blocks)[:len(self._known)] == self._known

    def _read_on(self, row, spans):
        change(self.contents, [entry_of(row[index:index + many]) for index, many in spans])
        if len(spans) > 0:
            index, many = spans[-1]
            self._known = row[:index + many]
            self._least = row[index][2]


class View:
    """What the disks of one world tell, as far as they were read since they were touched."""

    def __init__(self, owner):
        self.owner = owner
        self._settings = owner.settings
        self._servers = server_names(owner.settings)
        self._shelves = shelf_names(owner.settings)
        self._logs = {}
        self._fresh = {}
        self._book = None
        self._walked = None
        self._told = {}

    def touch(self, name):
        """The disk of this machine may have changed."""
        if name in self._fresh:
            del self._fresh[name]

    def read_map(self, name):
        """The map on the disk of a machine."""
        if name not in self._logs:
            self._logs[name] = Log()
        log = self._logs[name]
        if name not in self._fresh:
            log.catch_up(self.owner.blocks_of(name))
            self._fresh[name] = True
        return log.contents

    def read_book(self):
        """The triple (start, data, values) that the disks of the book servers tell."""
        if self._book is None or not all([name in self._fresh for name in self._servers]):
            self._book = book_in([self.read_map(name) for name in self._servers])
        return self._book

    def read_state(self):
        """The State behind the book; from book to book only new commands are stepped."""
        start, data, values = self.read_book()
        state, known = self._state_along(start, data, values)
        for command in values[known:]:
            state, _ = step(state, command)
        self._walked = (start, data, values, state)
        return state

    def read_files(self):
        """The pairs (path, rows of letters) of all files."""
        elder = self._told
        self._told = {}
        files = []
        for path, rows in self.read_state().tree:
            if rows is not None:
                files.append((path, tuple([self._letters_of(row, elder) for row in rows])))
        return tuple(files)

    def read_pieces(self, write):
        """The pairs (number, piece) of all shelves that keep a piece of a write."""
        key = key_of_piece(write)
        found = []
        for number, name in enumerate(self._shelves, 1):
            contents = self.read_map(name)
            if key in contents:
                found.append((number, contents[key]))
        return tuple(found)

    def _state_along(self, start, data, values):
        """A State along this book that is known, and behind how many of the values it is."""
        if self._walked is not None:
            known_start, known_data, known, state = self._walked
            if (known_start, known_data) == (start, data) and values[:len(known)] == known:
                return state, len(known)
        if data is None:
            return start_state(self._settings), 0
        return state_from(self._settings, data), 0

    def _letters_of(self, row, elder):
        """The letters of a row; they are told anew only if its pieces are others."""
        write, count = row
        pieces = self.read_pieces(write)
        told = elder.get(row)
        if told is None or told[0] != pieces:
            told = (pieces, letters_among(pieces, count, self._settings))
        self._told[row] = told
        return told[1]
