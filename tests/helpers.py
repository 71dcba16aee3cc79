"""What several tests use."""

from keptfiles.disk import Disk
from keptfiles.errors import BadNumber, Fallen

# None of these is an integer as the document understands the word.
NO_INTEGERS = (None, True, False, "", "1", (), (1,), [], {}, 1.0, b"1")


def check_error(case, kind, attributes, call, *args, **more):
    """The call raises an error of just this kind, and its attributes are the very objects that are told."""
    with case.assertRaises(kind) as caught:
        call(*args, **more)
    error = caught.exception
    case.assertIs(type(error), kind)
    for name, value in attributes.items():
        case.assertIs(type(getattr(error, name)), type(value), (name, value))
        case.assertEqual(getattr(error, name), value)


def check_bad_number(case, what, number, call, *args, **more):
    """The call raises BadNumber(what, number)."""
    check_error(case, BadNumber, {"what": what, "number": number}, call, *args, **more)


def same(case, found, expected):
    """Equal, and of equal kinds all the way down: lists are no tuples, True is not 1."""
    case.assertEqual(found, expected)
    case.assertEqual(repr(found), repr(expected))


def disk_with(blocks):
    """A disk that holds these blocks."""
    disk = Disk(len(blocks))
    for number, content in enumerate(blocks):
        disk.spoil(number, content)
    return disk


def copy_of(disk):
    """Another disk with the same blocks and waiting writes, without a fuse."""
    other = disk_with(disk.blocks)
    for number, content in disk.waiting:
        other.write(number, content)
    return other


def lots(many):
    """All lots of so many waiting writes."""
    return [tuple(place for place in range(many) if bits >> place & 1) for bits in range(2 ** many)]


def steps_of(disk, call):
    """How many steps a call needs, counted on a copy that falls behind ever more of them."""
    steps = 0
    while True:
        other = copy_of(disk)
        other.set_fuse(steps)
        try:
            call(other)
            return steps
        except Fallen as error:
            assert error.steps == steps
        steps += 1


def state_tuple(state):
    """All attributes of a State."""
    return state.need, state.tree, state.used, state.barred, state.lives, state.many, state.last
