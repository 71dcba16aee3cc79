"""The desk: stories under names, which are edited so that promises about them stay kept."""

from keptfiles.entries import changed_entry, entries_behind, entry_named, file_of, renamed_entry
from keptfiles.errors import (BadName, BadNumber, BadText, NoName, NothingToRedo, NothingToUndo, TakenName, is_name,
                              is_within)
from keptfiles.promises import asked, broken_among, items_in, need_items, need_kept, renamed_promise
from keptfiles.story import played
from keptfiles.words import lines_of, need_text, words_of


class Desk:
    """Items and promises; each edit makes new tuples of them, and the elder ones are kept for undo."""

    def __init__(self, text=""):
        self._entries = entries_behind((), text)
        self._promises = ()
        self._done = ()
        self._undone = ()
        self._is_within = False

    # What it tells.

    def lines(self):
        """The file of all items."""
        return file_of(self._entries)

    def item_names(self):
        """The names of all items, in their order."""
        return tuple([entry.name for entry in self._entries])

    def get_story(self, name):
        """The story of an item."""
        return self._need_entry(name).story

    def get_world(self, name):
        """A world of its own behind the story of an item."""
        return played(self._need_entry(name).story)

    def promises(self):
        """All promises, in the order in which they were made."""
        return self._promises

    def holds(self, promise):
        """Whether a promise, made or not, is kept, and the witness if it is not."""
        return asked(self._entries, promise)

    def broken(self):
        """The pairs (promise, witness) of all promises that are not kept."""
        return broken_among(self._entries, self._promises)

    # Edits.

    def put(self, text):
        """The items of a file come in the places of those with their names, or behind the last one."""
        self._edit(entries_behind(self._entries, text), self._promises)

    def edit(self, name, number, text):
        """Lines come in the place of a line of an item, or behind its last one."""
        lines = self._need_lines(name, text)
        if not is_within(number, 1, len(lines) + 1):
            raise BadNumber("line", number)
        self._replace(name, number, text)

    def add(self, name, text):
        """Lines come behind the last line of an item."""
        self._replace(name, len(self._need_lines(name, text)) + 1, text)

    def drop(self, name):
        """An item is gone, and all promises that name it."""
        gone = self._need_entry(name)
        promises = [promise for promise in self._promises if name not in items_in(promise)]
        self._edit(tuple([entry for entry in self._entries if entry != gone]), tuple(promises))

    def rename(self, name, new):
        """An item has another name."""
        if not is_name(new):
            raise BadName(new)
        elder = self._need_entry(name)
        if entry_named(self._entries, new) is not None:
            raise TakenName(new)
        entry = renamed_entry(elder, new)
        promises = [renamed_promise(promise, name, new) for promise in self._promises]
        self._edit(self._entries_with(elder, entry), tuple(promises))

    def keep(self, promise):
        """A promise is made."""
        need_items(self._entries, promise)
        if promise in self._promises:
            self._edit(self._entries, self._promises)
        else:
            self._edit(self._entries, self._promises + (promise,))

    def release(self, promise):
        """A promise is taken back."""
        need_text(promise)
        if promise not in self._promises:
            raise NoName(promise)
        self._edit(self._entries, tuple([made for made in self._promises if made != promise]))

    def undo(self):
        """The last edit is taken back."""
        if len(self._done) == 0:
            raise NothingToUndo()
        entries, promises = self._done[-1]
        self._undone = self._undone + ((self._entries, self._promises),)
        self._done = self._done[:-1]
        self._become(entries, promises)

    def redo(self):
        """The edit that was taken back last is done again."""
        if len(self._undone) == 0:
            raise NothingToRedo()
        entries, promises = self._undone[-1]
        self._done = self._done + ((self._entries, self._promises),)
        self._undone = self._undone[:-1]
        self._become(entries, promises)

    def attempt(self, action):
        """What action does is one edit, or nothing at all if it ends with an error or breaks a promise."""
        entries, promises = self._entries, self._promises
        done, undone, was_within = self._done, self._undone, self._is_within
        self._done, self._undone, self._is_within = (), (), True
        try:
            answer = action(self)
            if not was_within:
                need_kept(self._entries, self._promises)
            done, undone = done + ((entries, promises),), ()
            entries, promises = self._entries, self._promises
        finally:
            self._entries, self._promises = entries, promises
            self._done, self._undone, self._is_within = done, undone, was_within
        return answer

    def trial(self, action):
        """What action does is given back, however it ends."""
        entries, promises = self._entries, self._promises
        done, undone, was_within = self._done, self._undone, self._is_within
        self._done, self._undone, self._is_within = (), (), True
        try:
            return action(self)
        finally:
            self._entries, self._promises = entries, promises
            self._done, self._undone, self._is_within = done, undone, was_within

    # What these need.

    def _need_entry(self, name):
        """The item with this name."""
        if not isinstance(name, str):
            raise BadName(name)
        entry = entry_named(self._entries, name)
        if entry is None:
            raise NoName(name)
        return entry

    def _need_lines(self, name, text):
        """The lines of the item with this name; text is a string."""
        if not isinstance(name, str):
            raise BadName(name)
        need_text(text)
        return lines_of(self._need_entry(name).story.text)

    def _replace(self, name, number, text):
        """Lines come in the place of the line with this number, which is there or the next one."""
        elder = self._need_entry(name)
        added = lines_of(text)
        for at, line in enumerate(added, number):
            if words_of(line)[0] == "world":
                raise BadText(at, 1)
        lines = lines_of(elder.story.text)
        entry = changed_entry(elder, lines[:number - 1] + added + lines[number:])
        self._edit(self._entries_with(elder, entry), self._promises)

    def _entries_with(self, elder, entry):
        """The items with another one in the place of this one."""
        return tuple([entry if known == elder else known for known in self._entries])

    def _edit(self, entries, promises):
        """An edit: the desk has these items and promises from now on, if all of them are kept."""
        if not self._is_within:
            need_kept(entries, promises)
        self._done = self._done + ((self._entries, self._promises),)
        self._undone = ()
        self._become(entries, promises)

    def _become(self, entries, promises):
        """The desk has these items and promises; worlds that nobody looks at any more are forgotten."""
        for entry in self._entries:
            if entry not in entries:
                entry.forget()
        self._entries, self._promises = entries, promises
