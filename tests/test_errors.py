"""Promise [2]: the errors."""

import unittest

from keptfiles import errors
from keptfiles.errors import StoreError

ATTRIBUTES = {
    "BadText": ("line", "column"),
    "BadNumber": ("what", "number"),
    "BadName": ("name",),
    "BadDeed": ("deed",),
    "NoName": ("name",),
    "TakenName": ("name",),
    "NoLetter": ("number",),
    "Asleep": ("name",),
    "Awake": ("name",),
    "Busy": ("name",),
    "TooMany": ("what", "many", "limit"),
    "Full": ("size",),
    "Fallen": ("steps",),
    "NotKept": ("promise", "witness"),
    "NothingToUndo": (),
    "NothingToRedo": (),
}
# A number of more than 4300 digits cannot be shown: an error must keep it all the same.
VALUES = (None, "", "a b", (), (1, ("x", None)), [], [1, [2]], {}, {"a": 1}, 0, -1, 10 ** 5000, 1.5,
          True, False, b"x", object(), StoreError)


class Errors(unittest.TestCase):
    def test_base(self):
        self.assertTrue(issubclass(StoreError, ValueError))
        self.assertIsInstance(StoreError(), ValueError)

    def test_there_are_sixteen(self):
        found = [name for name in dir(errors)
                 if isinstance(getattr(errors, name), type) and issubclass(getattr(errors, name), StoreError)]
        self.assertEqual(sorted(found), sorted([*ATTRIBUTES, "StoreError"]))
        self.assertEqual(len(ATTRIBUTES), 16)

    def test_attributes_by_place(self):
        for kind, names in ATTRIBUTES.items():
            for first in range(len(VALUES)):
                values = [VALUES[(first + at) % len(VALUES)] for at in range(len(names))]
                error = getattr(errors, kind)(*values)
                for name, value in zip(names, values):
                    self.assertIs(getattr(error, name), value, (kind, name))

    def test_attributes_by_name(self):
        for kind, names in ATTRIBUTES.items():
            values = {name: VALUES[at] for at, name in enumerate(names)}
            error = getattr(errors, kind)(**values)
            for name in names:
                self.assertIs(getattr(error, name), values[name], (kind, name))

    def test_each_is_of_its_own_kind_alone(self):
        for kind, names in ATTRIBUTES.items():
            error = getattr(errors, kind)(*[None for _ in names])
            self.assertIsInstance(error, StoreError)
            self.assertIsInstance(error, ValueError)
            for other in ATTRIBUTES:
                self.assertEqual(isinstance(error, getattr(errors, other)), other == kind, (kind, other))

    def test_each_can_be_raised_and_caught_by_the_base(self):
        for kind, names in ATTRIBUTES.items():
            with self.assertRaises(StoreError) as caught:
                raise getattr(errors, kind)(*[() for _ in names])
            self.assertIs(type(caught.exception), getattr(errors, kind))

    def test_what_is_passed_is_not_changed(self):
        deed = [1, [2]]
        errors.BadDeed(deed)
        self.assertEqual(deed, [1, [2]])


if __name__ == "__main__":
    unittest.main()
