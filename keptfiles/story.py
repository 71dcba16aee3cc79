"""Stories: texts that tell the settings of a world, and the deeds that befall it."""

from keptfiles.errors import BadText, Settings, StoreError
from keptfiles.words import lines_of, need_text, values_of, words_of
from keptfiles.world import World, settle

DEEDS = {
    "hand": ("name",), "nudge": ("name",), "fall": ("name",), "wipe": ("name",), "give": ("number",),
    "double": ("number",), "lose": ("number",), "settle": (), "crash": ("name", "lot"),
    "restart": ("name", "number", "lot"), "cut": ("number", "number", "lot"),
    "spoil": ("name", "name", "number", "number", "number"),
}
CALLS = {
    "make": ("path",), "file": ("path",), "list": ("path",), "drop": ("path",), "size": ("path",),
    "move": ("path", "path"), "read": ("path", "number"), "cut": ("path", "number"),
    "write": ("path", "number", "letters"), "mend": ("name",), "sweep": ("name",), "scrub": ("name",), "fold": (),
}
STORE = ("number",) * 8


def call_in(words, line):
    """The deed that a line of a call tells."""
    name = values_of(words[:2], 1, ("name",), line)[0]
    if len(words) < 3 or words[2] not in CALLS:
        raise BadText(line, 3)
    return "call", name, (words[2],) + values_of(words, 3, CALLS[words[2]], line)


def deed_in(words, line):
    """The deed that a line tells."""
    word = words[0]
    if word == "call":
        return call_in(words, line)
    if word not in DEEDS:
        raise BadText(line, 1)
    if word in ("crash", "restart") and len(words) == 2:
        name = values_of(words, 1, ("name",), line)[0]
        return ("crash", name, ()) if word == "crash" else ("restart", name, None, ())
    values = values_of(words, 1, DEEDS[word], line)
    if word == "spoil":
        shelf, hand, count, place, number = values
        return "spoil", shelf, (hand, count), place, number
    return (word,) + values


class Story:
    """A story: its text, and what the text tells."""

    def __init__(self, text):
        need_text(text)
        lines = lines_of(text)
        if len(lines) == 0 or words_of(lines[0])[0] != "store":
            raise BadText(1, 1)
        numbers = values_of(words_of(lines[0]), 1, STORE, 1)
        self.text = text
        self.deeds = tuple([deed_in(words_of(line), number) for number, line in enumerate(lines[1:], 2)])
        self.settings = Settings(*numbers)


def do_deed(world, deed):
    """Does a deed of a story."""
    word, *rest = deed
    if word == "hand":
        world.hand(*rest)
    elif word == "call":
        world.call(*rest)
    elif word == "nudge":
        world.nudge(*rest)
    elif word == "give":
        world.give(*rest)
    elif word == "double":
        world.double(*rest)
    elif word == "lose":
        world.lose(*rest)
    elif word == "cut":
        world.cut(*rest)
    elif word == "crash":
        world.crash(*rest)
    elif word == "restart":
        world.restart(*rest)
    elif word == "wipe":
        world.wipe(*rest)
    elif word == "spoil":
        world.spoil(*rest)
    elif word == "fall":
        world.fall(*rest)
    else:
        settle(world)


def do_deeds(world, deeds):
    """Does deeds of a story, one after the other."""
    for deed in deeds:
        do_deed(world, deed)


def played(story):
    """A world behind all deeds of a story."""
    world = World(story.settings)
    do_deeds(world, story.deeds)
    return world


def told_of(events):
    """What is told of a deed that added these events to the history."""
    answers = [f"answer {event[1]}" for event in events if event[0] == "answer"]
    return " ".join(answers) if len(answers) > 0 else "ok"


def told(story):
    """What happens at each deed of a story, up to the first that raises an error."""
    world = World(story.settings)
    rows = []
    for deed in story.deeds:
        known = len(world.history())
        try:
            do_deed(world, deed)
        except StoreError:
            rows.append("error")
            return tuple(rows)
        rows.append(told_of(world.history()[known:]))
    return tuple(rows)
