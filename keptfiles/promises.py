"""Promises about the items of a desk: texts of words, which can be asked as long as their items are there."""

from keptfiles.entries import entry_named
from keptfiles.errors import BadText, NoName, NotKept, shelf_names
from keptfiles.judge import paper_of, trouble_of
from keptfiles.meaning import meaning, same_now, whole_shelves
from keptfiles.words import need_text, values_of, words_of

PROMISES = {
    "explained": (), "reads": ("path", "number", "numbers"), "whole": ("name",), "answers": ("number",),
    "like": ("name",),
}


def parsed(text):
    """The triple (item, word, values) that a promise tells."""
    need_text(text)
    words = words_of(text)
    item = values_of(words[:1], 0, ("name",), 1)[0]
    if len(words) < 2 or words[1] not in PROMISES:
        raise BadText(1, 2)
    return item, words[1], values_of(words, 2, PROMISES[words[1]], 1)


def items_in(text):
    """The names of the items that a promise is about."""
    item, word, values = parsed(text)
    return (item,) + values if word == "like" else (item,)


def renamed_promise(text, name, new):
    """The promise about an item that has another name now."""
    words = words_of(text)
    places = (0, 2) if words[1] == "like" else (0,)
    return " ".join([new if at in places and word == name else word for at, word in enumerate(words)])


def need_items(entries, text):
    """The items that a promise is about; its error if it cannot be asked."""
    found = []
    for name in items_in(text):
        entry = entry_named(entries, name)
        if entry is None:
            raise NoName(name)
        found.append(entry)
    _, word, values = parsed(text)
    if word == "whole" and values[0] not in shelf_names(found[0].story.settings):
        raise NoName(values[0])
    return found


def letters_in(world, path, number):
    """The letters of a row of a file, None if there is no such row."""
    for known, rows in meaning(world).files:
        if known == path and number < len(rows):
            return rows[number]
    return None


def asked(entries, text):
    """The pair of whether a promise is kept, and of the witness if it is not."""
    worlds = [entry.seen_world() for entry in need_items(entries, text)]
    _, word, values = parsed(text)
    witness = None
    if word == "explained":
        witness = trouble_of(worlds[0].history(), paper_of(worlds[0]))
        is_kept = witness is None
    elif word == "reads":
        path, number, letters = values
        witness = letters_in(worlds[0], path, number)
        is_kept = witness == letters
    elif word == "whole":
        witness = whole_shelves(worlds[0])
        is_kept = values[0] in witness
    elif word == "answers":
        witness = len([event for event in worlds[0].history() if event[0] == "answer"])
        is_kept = witness >= values[0]
    else:
        is_kept = same_now(worlds[0], worlds[1])
    return is_kept, None if is_kept else witness


def broken_among(entries, promises):
    """The pairs (promise, witness) of those that are not kept."""
    broken = []
    for promise in promises:
        is_kept, witness = asked(entries, promise)
        if not is_kept:
            broken.append((promise, witness))
    return tuple(broken)


def need_kept(entries, promises):
    """The error of the first promise that can no longer be asked, or is not kept."""
    for promise in promises:
        is_kept, witness = asked(entries, promise)
        if not is_kept:
            raise NotKept(promise, witness)
