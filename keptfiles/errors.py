"""The errors of the store, the names of its machines, and its settings."""

SERVERS = (1, 3, 5, 7)
GREATEST_PRIME = 1000000
LETTERS = "abcdefghijklmnopqrstuvwxyz"
LONGEST_NAME = 12


class StoreError(ValueError):
    """The base of all errors of this package."""


class BadText(StoreError):
    """A text is wrong at this word; (0, 0) stands for a value that is no string."""

    def __init__(self, line, column):
        self.line = line
        self.column = column


class BadNumber(StoreError):
    """A number is not of its kind."""

    def __init__(self, what, number):
        self.what = what
        self.number = number


class BadName(StoreError):
    """A value is no NAME."""

    def __init__(self, name):
        self.name = name


class BadDeed(StoreError):
    """A deed is not of its kind."""

    def __init__(self, deed):
        self.deed = deed


class NoName(StoreError):
    """Nothing has this name."""

    def __init__(self, name):
        self.name = name


class TakenName(StoreError):
    """Something else has this name."""

    def __init__(self, name):
        self.name = name


class NoLetter(StoreError):
    """No letter with this number is under way."""

    def __init__(self, number):
        self.number = number


class Asleep(StoreError):
    """This machine has fallen and was not begun again, or this hand has fallen."""

    def __init__(self, name):
        self.name = name


class Awake(StoreError):
    """This machine runs already."""

    def __init__(self, name):
        self.name = name


class Busy(StoreError):
    """This hand has a deed that is not over."""

    def __init__(self, name):
        self.name = name


class TooMany(StoreError):
    """There are too many of something."""

    def __init__(self, what, many, limit):
        self.what = what
        self.many = many
        self.limit = limit


class Full(StoreError):
    """A disk has no room."""

    def __init__(self, size):
        self.size = size


class Fallen(StoreError):
    """A disk fell behind so many steps."""

    def __init__(self, steps):
        self.steps = steps


class NotKept(StoreError):
    """A promise would not be kept."""

    def __init__(self, promise, witness):
        self.promise = promise
        self.witness = witness


class NothingToUndo(StoreError):
    """No edit is left that can be taken back."""


class NothingToRedo(StoreError):
    """No edit is left that can be done again."""


def is_int(value):
    """Whether a value is an integer; True and False are none."""
    return isinstance(value, int) and not isinstance(value, bool)


def is_from(value, least):
    """Whether a value is an integer from least on."""
    return is_int(value) and value >= least


def are_from(values, least):
    """Whether all values are integers from least on."""
    # Written out, for histories have very many letters that are looked at again and again.
    return all([isinstance(value, int) and not isinstance(value, bool) and value >= least for value in values])


def is_within(value, least, most):
    """Whether a value is an integer from least to most."""
    return is_from(value, least) and value <= most


def is_name(value):
    """Whether a value is a NAME."""
    if not isinstance(value, str) or value == "" or len(value) > LONGEST_NAME:
        return False
    return value[0] in LETTERS and value.isascii() and value.isalnum() and value.islower()


def is_most(many, servers):
    """Whether so many are more than half of so many book servers."""
    return many > servers // 2


def is_prime(number):
    """Whether an integer from 2 on is a prime."""
    divisor = 2
    while divisor * divisor <= number:
        if number % divisor == 0:
            return False
        divisor += 1
    return True


def need_within(what, value, least, most):
    """Raises BadNumber if a value is no integer from least to most."""
    if not is_within(value, least, most):
        raise BadNumber(what, value)


class Settings:
    """How many machines a store has, how it cuts what is written, and how large its disks are."""

    def __init__(self, servers, shelves, k, e, f, prime, size, width):
        if not is_int(servers) or servers not in SERVERS:
            raise BadNumber("servers", servers)
        need_within("shelves", shelves, 1, 8)
        need_within("k", k, 1, 4)
        need_within("e", e, 0, 2)
        need_within("f", f, 0, 3)
        if k + 2 * e + f > shelves:
            raise BadNumber("f", f)
        need_within("prime", prime, shelves + 1, GREATEST_PRIME)
        if not is_prime(prime):
            raise BadNumber("prime", prime)
        need_within("size", size, 9, 4000)
        need_within("width", width, 1, 16)
        self.servers = servers
        self.shelves = shelves
        self.k = k
        self.e = e
        self.f = f
        self.prime = prime
        self.size = size
        self.width = width
        self.need = k + 2 * e + f


def server_names(settings):
    """The NAMEs of all book servers, ascending by their numbers."""
    return tuple([f"b{number}" for number in range(1, settings.servers + 1)])


def shelf_names(settings):
    """The NAMEs of all shelves, ascending by their numbers."""
    return tuple([f"s{number}" for number in range(1, settings.shelves + 1)])
