"""Promise [1] and the interface: names, arguments and files."""

import importlib
import inspect
import unittest

from keptfiles.disk import Disk
from keptfiles.errors import Settings
from keptfiles.keeper import Keeper

FUNCTIONS = {
    "errors": {"server_names": ("settings",), "shelf_names": ("settings",)},
    "disk": {},
    "keeper": {"record_of": ("key", "value", "generation", "index", "run", "width"), "log_of": ("blocks",),
               "map_of": ("entries",), "kept": ("blocks",), "cell_at": ("blocks", "key", "place")},
}
CLASSES = {
    "errors": {
        "StoreError": {}, "BadText": {"__init__": ("line", "column")}, "BadNumber": {"__init__": ("what", "number")},
        "BadName": {"__init__": ("name",)}, "BadDeed": {"__init__": ("deed",)}, "NoName": {"__init__": ("name",)},
        "TakenName": {"__init__": ("name",)}, "NoLetter": {"__init__": ("number",)},
        "Asleep": {"__init__": ("name",)}, "Awake": {"__init__": ("name",)}, "Busy": {"__init__": ("name",)},
        "TooMany": {"__init__": ("what", "many", "limit")}, "Full": {"__init__": ("size",)},
        "Fallen": {"__init__": ("steps",)}, "NotKept": {"__init__": ("promise", "witness")},
        "NothingToUndo": {}, "NothingToRedo": {},
        "Settings": {"__init__": ("servers", "shelves", "k", "e", "f", "prime", "size", "width")}},
    "disk": {
        "Disk": {"__init__": ("size",), "write": ("number", "content"), "read": ("number",), "flush": (),
                 "set_fuse": ("steps",), "fall": ("lot",), "wipe": (), "spoil": ("number", "content")}},
    "keeper": {
        "Keeper": {"__init__": ("disk", "width"), "get": ("key",), "pairs": (), "weight": (),
                   "put": ("key", "value"), "drop": ("key",), "flush": ()}},
}


def parameters(function):
    return tuple(inspect.signature(function).parameters)


class Interface(unittest.TestCase):
    def test_functions_stand_in_their_files(self):
        for name, functions in FUNCTIONS.items():
            module = importlib.import_module("keptfiles." + name)
            for word, expected in functions.items():
                function = getattr(module, word)
                self.assertEqual(function.__module__, module.__name__)
                self.assertEqual(parameters(function), expected, word)

    def test_classes_and_their_methods_stand_in_their_files(self):
        for name, classes in CLASSES.items():
            module = importlib.import_module("keptfiles." + name)
            for word, methods in classes.items():
                kind = getattr(module, word)
                self.assertEqual(kind.__module__, module.__name__)
                for method, expected in methods.items():
                    self.assertIn(method, vars(kind), word)
                    self.assertEqual(parameters(vars(kind)[method])[1:], expected, (word, method))

    def test_attributes_are_set_on_each_object(self):
        disk = Disk(3)
        told = ((Settings(1, 1, 1, 0, 0, 2, 9, 1),
                 ("servers", "shelves", "k", "e", "f", "prime", "size", "width", "need")),
                (disk, ("size", "blocks", "waiting")), (Keeper(disk, 1), ("disk", "width")))
        for thing, names in told:
            for name in names:
                self.assertIn(name, vars(thing))

    def test_isinstance_tells_classes_apart(self):
        disk = Disk(3)
        self.assertNotIsInstance(disk, Keeper)
        self.assertNotIsInstance(Keeper(disk, 1), Disk)


if __name__ == "__main__":
    unittest.main()
