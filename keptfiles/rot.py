"""Rot on the disk of a shelf: what lay there ahead of it, and until when it counts."""

from keptfiles.shelves import key_of_piece


class Rot:
    """What befell one shelf; it never changes.

    right has the pieces that lay there ahead of their first spoiling, ceased is the moment at which the shelf
    last ceased to be spoiled, 0 if it never did.
    """

    def __init__(self, right, is_spoiled, ceased):
        self.right = right
        self.is_spoiled = is_spoiled
        self.ceased = ceased


def is_wrong(right, contents):
    """Whether the map of a shelf's disk tells another piece than the right one, of some write."""
    for write, piece in right.items():
        if contents.get(key_of_piece(write), piece) != piece:
            return True
    return False


def rot_behind(rot, contents, moment):
    """The Rot of a shelf whose disk tells another map from this moment on."""
    is_spoiled = is_wrong(rot.right, contents)
    has_ceased = rot.is_spoiled and not is_spoiled
    return Rot(rot.right, is_spoiled, moment if has_ceased else rot.ceased)


def with_right(rot, write, piece):
    """The Rot that knows what piece of a write lay there ahead of its first spoiling: this one, if of no other."""
    right = {known: rot.right[known] for known in rot.right}
    right.setdefault(write, piece)
    return Rot(right, rot.is_spoiled, rot.ceased)


def counts_as_spoiled(rot, eldest):
    """Whether a shelf counts as spoiled; eldest is the moment of the eldest call that is not over, or None."""
    return rot.is_spoiled or (eldest is not None and eldest < rot.ceased)
