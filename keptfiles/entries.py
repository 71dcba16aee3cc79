"""The items of a desk: stories under names, and the files that tell them."""

from keptfiles.errors import BadText
from keptfiles.story import Story, do_deeds, played
from keptfiles.words import lines_of, need_text, text_of, values_of, words_of


class Entry:
    """An item: a name, a story, and a world behind it that is only looked at."""

    def __init__(self, name, story, world):
        self.name = name
        self.story = story
        self._world = world

    def seen_world(self):
        """The world behind the story."""
        if self._world is None:
            self._world = played(self.story)
        return self._world

    def forget(self):
        """Keeps the world no longer: it is played again when it is looked at."""
        self._world = None

    def given_world(self):
        """The world behind the story, to do with it whatever one likes."""
        world = self.seen_world()
        self.forget()
        return world


def name_in(words, number, parts):
    """The name that a line "world" tells; it is none of those that are known."""
    name = values_of(words[:2], 1, ("name",), number)[0]
    if name in parts:
        raise BadText(number, 2)
    if len(words) > 2:
        raise BadText(number, 3)
    return name


def parts_of(text):
    """A dict from the name of each item of a file to the pair of the number of its line "world", and its lines."""
    need_text(text)
    parts = {}
    name = None
    for number, line in enumerate(lines_of(text), 1):
        words = words_of(line)
        if words[0] == "world":
            name = name_in(words, number, parts)
            parts[name] = (number, [])
        elif name is None:
            raise BadText(number, 1)
        else:
            parts[name][1].append(line)
    return parts


def story_of(lines, ahead):
    """The story of these lines; its errors count the lines that stand ahead of it, too."""
    try:
        return Story(text_of(lines))
    except BadText as error:
        raise BadText(error.line + ahead, error.column) from None


def new_entry(name, lines, ahead):
    """An item of these lines; all of its deeds can be done."""
    story = story_of(lines, ahead)
    return Entry(name, story, played(story))


def changed_entry(elder, lines):
    """The item with other lines; all of its deeds can be done."""
    story = story_of(lines, 0)
    if not story.text.startswith(elder.story.text):
        return Entry(elder.name, story, played(story))
    # The elder lines are all there: only what comes behind them is played.
    world = elder.given_world()
    do_deeds(world, story.deeds[len(elder.story.deeds):])
    return Entry(elder.name, story, world)


def renamed_entry(elder, new):
    """The item under another name."""
    return Entry(new, elder.story, elder.given_world())


def entry_named(entries, name):
    """The item with this name, None if there is none."""
    for entry in entries:
        if entry.name == name:
            return entry
    return None


def entries_behind(entries, text):
    """The items behind those of a file: each takes the place of the one with its name, or comes behind the last."""
    parts = parts_of(text)
    known = [entry.name for entry in entries]
    behind = []
    for name in known + [other for other in parts if other not in known]:
        if name in parts:
            number, lines = parts[name]
            behind.append(new_entry(name, lines, number))
        else:
            behind.append(entry_named(entries, name))
    return tuple(behind)


def file_of(entries):
    """The file of items."""
    return "".join([f"world {entry.name}\n{entry.story.text}" for entry in entries])
