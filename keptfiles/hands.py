"""A hand: a client of the store, which does one deed after the other."""

from keptfiles.deeds import Course, Folding, Saying
from keptfiles.errors import BadDeed, Busy, shelf_names
from keptfiles.forms import is_deed
from keptfiles.gathering import Reading
from keptfiles.mending import Mending
from keptfiles.sweeping import Scrubbing, Sweeping
from keptfiles.writing import Writing


def is_deed_for(deed, settings):
    """Whether a value is a deed for a store with these settings."""
    if not is_deed(deed):
        return False
    if deed[0] == "write":
        return all([letter < settings.prime for letter in deed[3]])
    if deed[0] in ("mend", "scrub", "sweep"):
        return deed[1] in shelf_names(settings)
    return True


def need_deed(deed, settings):
    """Raises BadDeed if a value is no deed for these settings."""
    if not is_deed_for(deed, settings):
        raise BadDeed(deed)


def begun_deed(course, deed):
    """What does a deed."""
    word = deed[0]
    if word == "write":
        return Writing(course, deed[1], deed[2], deed[3])
    if word == "read":
        return Reading(course, deed[1], deed[2])
    if word == "fold":
        return Folding(course)
    if word == "mend":
        return Mending(course, deed[1])
    if word == "scrub":
        return Scrubbing(course, deed[1])
    if word == "sweep":
        return Sweeping(course, deed[1])
    return Saying(course, deed)


class Hand:
    """A client of the store; it has no disk."""

    def __init__(self, name, settings):
        self.name = name
        self.settings = settings
        self.is_busy = False
        self.result = None
        self._course = Course(name, settings)
        self._deed = None
        self.walker = self._course.walker

    def call(self, deed):
        """Begins a deed."""
        if self.is_busy:
            raise Busy(self.name)
        need_deed(deed, self.settings)
        self.is_busy = True
        self.result = None
        self._course.outcome = None
        self._deed = begun_deed(self._course, deed)
        return self._deed.begin()

    def hear(self, letter):
        """Gives the deed a letter."""
        if not self.is_busy:
            return ()
        letters = self._heard(letter)
        if self._course.outcome is not None:
            self.is_busy = False
            self.result = self._course.outcome
        return letters

    def nudge(self):
        """Lets the deed try again."""
        if not self.is_busy:
            return ()
        if self._course.is_open:
            return self.walker.nudge()
        return self._deed.nudge()

    def _heard(self, letter):
        if not self._course.is_open or letter[0] not in self._course.all_servers:
            return self._deed.hear(letter)
        letters = self.walker.hear(letter)
        if self.walker.told is None:
            return letters
        self._course.is_open = False
        return self._deed.go_on(self.walker.told[0])
