"""The synod: a book server promises ballots and votes, slot by slot, and forgets slots that are folded.

It keeps, for each slot, (promised, vote, ..), a vote being (ballot, value), and its fold, (slot, data).
"""

from keptfiles.errors import Full, is_most
from keptfiles.keeper import Keeper, kept

FOLD = ("fold",)
NO_FOLD = (0, None)


def key_of(slot):
    """The key under which a server keeps what it promised and voted in a slot."""
    return ("slot", slot)


def slots_in(keys):
    """The slots among the keys of a server's map, ascending."""
    return sorted([key[1] for key in keys if key[0] == "slot"])


def fold_in(pairs):
    """The pair (slot, data) of the fold in a server's map."""
    return pairs.get(FOLD, NO_FOLD)


def fold_of(blocks):
    """The pair (slot, data) of the fold that the blocks of a server's disk tell."""
    return fold_in(kept(blocks))


def votes_in(pairs):
    """As votes_of, of a server's map."""
    fold, _ = fold_in(pairs)
    told = {}
    for slot in slots_in(list(pairs)):
        if slot >= fold:
            promised, *votes = pairs[key_of(slot)]
            told[slot] = (promised, tuple(votes))
    return told


def votes_of(blocks):
    """A dict from each slot that is not below the fold to its pair (promised, votes)."""
    return votes_in(kept(blocks))


def chosen_among(votes, servers):
    """The values of the ballots that are chosen in one slot; votes are those of all servers together."""
    many = {}
    for ballot, _ in votes:
        many[ballot] = many.get(ballot, 0) + 1
    return [value for ballot, value in votes if is_most(many[ballot], servers)]


def chosen_in(maps):
    """As chosen, of the maps of all servers."""
    votes = {}
    for pairs in maps:
        for slot, (_, cast) in votes_in(pairs).items():
            votes.setdefault(slot, []).extend(cast)
    found = {}
    for slot in sorted(votes):
        values = chosen_among(votes[slot], len(maps))
        if len(values) > 0:
            found[slot] = values[0]
    return found


def chosen(rows):
    """A dict from each slot in which a value is chosen to this value; rows are the blocks of all servers."""
    return chosen_in([kept(blocks) for blocks in rows])


def greatest_fold(maps):
    """The fold with the greatest slot of all servers."""
    greatest = NO_FOLD
    for pairs in maps:
        fold = fold_in(pairs)
        if fold[0] > greatest[0]:
            greatest = fold
    return greatest


def book_in(maps):
    """As book, of the maps of all servers."""
    start, data = greatest_fold(maps)
    found = chosen_in(maps)
    values = []
    while start + len(values) in found:
        values.append(found[start + len(values)])
    return start, data, tuple(values)


def book(rows):
    """The triple of the greatest fold's slot and data, and of the values chosen from there on, without a gap."""
    return book_in([kept(blocks) for blocks in rows])


class BookServer:
    """A machine that keeps, on its disk, its promises, its votes and its fold."""

    def __init__(self, name, disk, width):
        self.name = name
        self.disk = disk
        self.keeper = Keeper(disk, width)

    def hear(self, letter):
        """The letters that the server sends when it hears this one: one or none."""
        source, _, word, body = letter
        try:
            answer = self._answer(word, body)
        except Full:
            return ()
        if answer is None:
            return ()
        return ((self.name, source) + answer,)

    def _answer(self, word, body):
        """The pair (word, body) of the answer, None if there is none."""
        if word == "fold":
            return self._answer_fold(body)
        if word != "ask" and word != "set":
            return None
        fold, data = self._fold()
        if body[0] < fold:
            return "past", (body[0], fold, data)
        if word == "ask":
            return self._answer_ask(body)
        return self._answer_set(body)

    def _answer_ask(self, body):
        slot, ballot = body
        promised, votes = self._kept_for(slot)
        if promised is not None and promised > ballot:
            return "no", (slot, ballot, promised)
        if promised != ballot:
            self._keep(slot, ballot, votes)
        elder, value = votes[-1] if len(votes) > 0 else (None, None)
        return "yes", (slot, ballot, elder, value)

    def _answer_set(self, body):
        slot, ballot, value = body
        promised, votes = self._kept_for(slot)
        if promised is not None and promised > ballot:
            return "no", (slot, ballot, promised)
        if len(votes) == 0 or votes[-1][0] != ballot:
            self._keep(slot, ballot, votes + ((ballot, value),))
        return "have", (slot, ballot)

    def _answer_fold(self, body):
        slot, data = body
        if slot > self._fold()[0]:
            # The fold comes first: if it is cut short, what is left below it means nothing.
            self.keeper.put(FOLD, (slot, data))
            self._forget_below(slot)
            self.keeper.flush()
        return "folded", (self._fold()[0],)

    def _fold(self):
        fold = self.keeper.get(FOLD)
        return NO_FOLD if fold is None else fold

    def _kept_for(self, slot):
        """The pair (promised, votes) of a slot."""
        cells = self.keeper.get(key_of(slot))
        if cells is None:
            return None, ()
        return cells[0], cells[1:]

    def _keep(self, slot, promised, votes):
        self.keeper.put(key_of(slot), (promised,) + votes)
        self.keeper.flush()

    def _forget_below(self, slot):
        for below in slots_in([key for key, _ in self.keeper.pairs()]):
            if below < slot:
                self.keeper.drop(key_of(below))
