"""The forms of deeds: what hands can be called to do, in every store."""

from keptfiles.errors import are_from, is_from, is_name
from keptfiles.machine import is_path

FORMS = {
    "make": ("path",), "file": ("path",), "list": ("path",), "move": ("path", "path"), "drop": ("path",),
    "cut": ("path", "number"), "size": ("path",), "write": ("path", "number", "letters"),
    "read": ("path", "number"), "fold": (), "mend": ("shelf",), "scrub": ("shelf",), "sweep": ("shelf",),
}
ASIDE = ("mend", "scrub", "sweep", "fold")


def is_part(kind, value):
    """Whether a value can stand in a deed where FORMS has this kind."""
    if kind == "path":
        return is_path(value)
    if kind == "number":
        return is_from(value, 0)
    if kind == "shelf":
        return is_name(value)
    return isinstance(value, tuple) and are_from(value, 0)


def is_deed(deed):
    """Whether a value is a deed of some store: its letters may be of any size, its shelf has any NAME."""
    if not isinstance(deed, tuple) or len(deed) == 0:
        return False
    if not isinstance(deed[0], str) or deed[0] not in FORMS:
        return False
    kinds = FORMS[deed[0]]
    if len(deed) != len(kinds) + 1:
        return False
    return all([is_part(kind, value) for kind, value in zip(kinds, deed[1:])])


def is_aside(deed):
    """Whether a deed changes and tells nothing of the tree of files."""
    return deed[0] in ASIDE
