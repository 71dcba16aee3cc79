"""What the disks of a world mean: the book, the State behind it, and the letters of all files."""

from keptfiles.errors import shelf_names
from keptfiles.machine import life_in, state_data
from keptfiles.views import View


class Meaning:
    """What the disks of a world mean."""

    def __init__(self, start, book, state, files):
        self.start = start
        self.book = book
        self.state = state
        self.files = files


def view_of(world):
    """The View that a world keeps of its own disks; a new one for a world that keeps none."""
    view = getattr(world, "_view", None)
    if view is None or view.owner != world:
        return View(world)
    return view


def start_of(world):
    """The slot of the greatest fold, 0 if there is none."""
    start, _, _ = view_of(world).read_book()
    return start


def book_of(world):
    """The commands that are chosen from the greatest fold on, without a gap."""
    _, _, commands = view_of(world).read_book()
    return commands


def state_of(world):
    """The State that the fold and the commands behind it lead to."""
    return view_of(world).read_state()


def pieces_on(world, write):
    """The pairs (number, piece) of all shelves that keep a piece of a write."""
    return view_of(world).read_pieces(write)


def whole_shelves(world):
    """The NAMEs of the shelves whose present life is known to the book, and known to be whole."""
    state = state_of(world)
    names = shelf_names(world.settings)
    return tuple([name for name in names if life_in(state, name) == (world.life_of(name), True)])


def meaning(world):
    """The Meaning of a world."""
    view = view_of(world)
    start, _, commands = view.read_book()
    return Meaning(start, commands, view.read_state(), view.read_files())


def same_now(world, other):
    """Whether two worlds have equal States and equal files."""
    first, second = meaning(world), meaning(other)
    return state_data(first.state) == state_data(second.state) and first.files == second.files
