"""The machine: the State that a row of commands leads to, and the answer to each of them."""

from keptfiles.errors import BadName, NoName, is_from, is_name
from keptfiles.trees import (ROOT_ALONE, file_in, length_in, names_in, row_at, with_length, with_moved, with_path,
                             with_row, without_path)


class State:
    """What all commands up to now lead to; it never changes."""

    def __init__(self, need, tree, used, barred, lives, many, last):
        self.need = need
        self.tree = tree
        self.used = used
        self.barred = barred
        self.lives = lives
        self.many = many
        self.last = last


def start_state(settings):
    """The State ahead of all commands: the root alone, and each shelf whole in its first life."""
    return State(settings.need, ROOT_ALONE, (), (), ((0, True),) * settings.shelves, 0, ())


def with_tree(state, tree):
    """The State with another tree."""
    return State(state.need, tree, state.used, state.barred, state.lives, state.many, state.last)


def with_used(state, write):
    """The State in which this write is used, too."""
    used = tuple(sorted(state.used + (write,)))
    return State(state.need, state.tree, used, state.barred, state.lives, state.many, state.last)


def with_barred(state, write):
    """The State in which this write is barred, too."""
    barred = tuple(sorted(state.barred + (write,)))
    return State(state.need, state.tree, state.used, barred, state.lives, state.many, state.last)


def with_life(state, place, life, is_whole):
    """The State with this life for the shelf at this place."""
    lives = state.lives[:place] + ((life, is_whole),) + state.lives[place + 1:]
    return State(state.need, state.tree, state.used, state.barred, lives, state.many, state.last)


def with_last(state, hand, count, answer):
    """The State behind one command more, with this answer."""
    others = [told for told in state.last if told[0] != hand]
    last = tuple(sorted(others + [(hand, count, answer, state.many)], key=lambda told: told[0]))
    return State(state.need, state.tree, state.used, state.barred, state.lives, state.many + 1, last)


def place_of(state, shelf):
    """The place of a shelf among the lives of a State, None if it is none of its shelves."""
    for place in range(len(state.lives)):
        if shelf == f"s{place + 1}":
            return place
    return None


def is_path(value):
    """Whether a value is a PATH."""
    return isinstance(value, tuple) and all([is_name(name) for name in value])


def is_pair(value):
    """Whether a value is a tuple of two, the second one a number."""
    return isinstance(value, tuple) and len(value) == 2 and is_from(value[1], 0)


def is_write(value):
    """Whether a value is a name of a write."""
    return is_pair(value) and is_name(value[0])


def is_mark(state, value):
    """Whether a value is a mark of one of the shelves of a State."""
    return is_pair(value) and place_of(state, value[0]) is not None


def is_thing(state, kind, value):
    """Whether a value is a thing of this kind, as FORMS has them."""
    if kind == "path":
        return is_path(value)
    if kind == "number":
        return is_from(value, 0)
    if kind == "write":
        return is_write(value)
    if kind == "shelf":
        return place_of(state, value) is not None
    return isinstance(value, tuple) and all([is_mark(state, mark) for mark in value])


def do_make(state, body):
    """A folder is made."""
    tree, answer = with_path(state.tree, body[0], None)
    return with_tree(state, tree), answer


def do_file(state, body):
    """A file without rows is made."""
    tree, answer = with_path(state.tree, body[0], ())
    return with_tree(state, tree), answer


def do_list(state, body):
    """Tells what is in a folder."""
    return state, names_in(state.tree, body[0])


def do_move(state, body):
    """A PATH is moved, and all that is below it."""
    tree, answer = with_moved(state.tree, body[0], body[1])
    return with_tree(state, tree), answer


def do_drop(state, body):
    """A PATH is taken out."""
    tree, answer = without_path(state.tree, body[0])
    return with_tree(state, tree), answer


def marks_that_count(state, marks):
    """How many shelves have a mark with the life that the State has for them."""
    lives = [(f"s{place + 1}", life) for place, (life, _) in enumerate(state.lives)]
    return len([mark for mark in lives if mark in marks])


def do_commit(state, body):
    """A write comes to stand in a file."""
    path, number, write, count, marks = body
    tree, answer = with_row(state.tree, path, number, (write, count))
    if answer != "done":
        return state, answer
    if write in state.barred:
        return state, "barred"
    if write in state.used:
        return state, "used"
    if marks_that_count(state, marks) < state.need:
        return state, "few"
    return with_used(with_tree(state, tree), write), "done"


def do_look(state, body):
    """Tells a row of a file."""
    row, answer = row_at(state.tree, body[0], body[1])
    if row is None:
        return state, answer
    return state, ("write",) + row


def do_size(state, body):
    """Tells the length of a file."""
    return state, length_in(state.tree, body[0])


def do_cut(state, body):
    """Only the first rows of a file stay."""
    tree, answer = with_length(state.tree, body[0], body[1])
    return with_tree(state, tree), answer


def do_bar(state, body):
    """A write that is not used never will be."""
    write = body[0]
    if write in state.used:
        return state, "used"
    if write in state.barred:
        return state, "barred"
    return with_barred(state, write), "barred"


def do_life(state, body):
    """A shelf has a new life; it is not whole then."""
    shelf, life = body
    place = place_of(state, shelf)
    known, _ = state.lives[place]
    if life == known:
        return state, "known"
    if life < known:
        return state, "old"
    return with_life(state, place, life, False), "new"


def do_whole(state, body):
    """A shelf is whole in the life that the State has for it."""
    shelf, life = body
    place = place_of(state, shelf)
    if life != state.lives[place][0]:
        return state, "other"
    return with_life(state, place, life, True), "whole"


def do_idle(state, _):
    """Nothing."""
    return state, "idle"


FORMS = {
    "make": ("path",), "file": ("path",), "list": ("path",), "move": ("path", "path"), "drop": ("path",),
    "commit": ("path", "number", "write", "number", "marks"), "look": ("path", "number"), "size": ("path",),
    "cut": ("path", "number"), "bar": ("write",), "life": ("shelf", "number"), "whole": ("shelf", "number"),
    "idle": (),
}
ACTIONS = {
    "make": do_make, "file": do_file, "list": do_list, "move": do_move, "drop": do_drop, "commit": do_commit,
    "look": do_look, "size": do_size, "cut": do_cut, "bar": do_bar, "life": do_life, "whole": do_whole,
    "idle": do_idle,
}


def is_right(state, command):
    """Whether a command has a word and a body as FORMS tells, and commits no write of another hand."""
    (hand, _), word, body = command
    if word not in FORMS or not isinstance(body, tuple) or len(body) != len(FORMS[word]):
        return False
    if not all([is_thing(state, kind, value) for kind, value in zip(FORMS[word], body)]):
        return False
    return word != "commit" or body[2][0] == hand


def step(state, command):
    """The pair of the State behind a command, and of its answer."""
    (hand, count), word, body = command
    after, answer = state, "wrong"
    if is_right(state, command):
        action = ACTIONS[word]
        after, answer = action(state, body)
    return with_last(after, hand, count, answer), answer


def standing(state):
    """All rows of all files, ascending."""
    return tuple(sorted([row for _, rows in state.tree if rows is not None for row in rows]))


def rows_of(state, path):
    """The rows of a file, None if the PATH is no file of the tree."""
    if not is_path(path):
        raise BadName(path)
    return file_in(state.tree, path)


def life_in(state, shelf):
    """The pair (life, is_whole) of a shelf."""
    place = place_of(state, shelf)
    if place is None:
        raise NoName(shelf)
    return state.lives[place]


def state_data(state):
    """A State as data."""
    lives = tuple([(life, 1 if is_whole else 0) for life, is_whole in state.lives])
    return state.need, state.tree, state.used, state.barred, lives, state.many, state.last


def state_from(settings, data):
    """The State that these data tell."""
    # The data tell all of the State, also what the settings tell: so it is the very same again.
    need, tree, used, barred, lives, many, last = data
    return State(need, tree, used, barred, tuple([(life, flag == 1) for life, flag in lives]), many, last)


def state_behind(settings, commands):
    """The State that commands lead to, one after the other."""
    state = start_state(settings)
    for command in commands:
        state, _ = step(state, command)
    return state


def answers_of(settings, commands):
    """The answers of commands, one after the other."""
    state = start_state(settings)
    answers = []
    for command in commands:
        state, answer = step(state, command)
        answers.append(answer)
    return tuple(answers)
