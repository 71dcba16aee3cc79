"""Promise [1] and the interface: names, arguments and files."""

import importlib
import inspect
import unittest

from keptfiles.agree import Agree, Walker
from keptfiles.disk import Disk
from keptfiles.errors import Settings
from keptfiles.hands import Hand
from keptfiles.judge import Trouble
from keptfiles.keeper import Keeper
from keptfiles.machine import start_state
from keptfiles.meaning import meaning
from keptfiles.shelves import Shelf
from keptfiles.story import Story
from keptfiles.synod import BookServer
from keptfiles.world import World

FUNCTIONS = {
    "errors": {"server_names": ("settings",), "shelf_names": ("settings",)},
    "disk": {},
    "keeper": {"record_of": ("key", "value", "generation", "index", "run", "width"), "log_of": ("blocks",),
               "map_of": ("entries",), "kept": ("blocks",), "cell_at": ("blocks", "key", "place")},
    "synod": {"fold_of": ("blocks",), "votes_of": ("blocks",), "chosen": ("rows",), "book": ("rows",)},
    "agree": {},
    "machine": {"start_state": ("settings",), "step": ("state", "command"), "standing": ("state",),
                "rows_of": ("state", "path"), "life_in": ("state", "shelf"), "state_data": ("state",),
                "state_from": ("settings", "data"), "state_behind": ("settings", "commands"),
                "answers_of": ("settings", "commands")},
    "code": {"piece_of": ("letters", "number", "settings"), "pieces_of": ("letters", "settings"),
             "letters_of": ("pieces", "count", "settings"), "letters_among": ("pieces", "count", "settings"),
             "agree_on": ("pieces", "count", "settings")},
    "shelves": {"held": ("blocks",), "life_on": ("blocks",)},
    "hands": {"need_deed": ("deed", "settings")},
    "mending": {"missing": ("state", "writes"), "dead": ("state", "writes"), "strange": ("state", "writes"),
                "undone": ("state", "rows")},
    "world": {"settle": ("world",)},
    "meaning": {"start_of": ("world",), "book_of": ("world",), "state_of": ("world",), "pieces_on": ("world", "write"),
                "whole_shelves": ("world",), "meaning": ("world",), "same_now": ("world", "other")},
    "judge": {"plain_start": (), "plain_step": ("tree", "deed"), "trouble_of": ("history", "paper"),
              "explained": ("history", "paper"), "paper_of": ("world",), "plain_behind": ("history", "paper")},
    "story": {"played": ("story",), "told": ("story",)},
    "desk": {},
}
CLASSES = {
    "errors": {
        "StoreError": {}, "BadText": {"__init__": ("line", "column")}, "BadNumber": {"__init__": ("what", "number")},
        "BadName": {"__init__": ("name",)}, "BadDeed": {"__init__": ("deed",)}, "NoName": {"__init__": ("name",)},
        "TakenName": {"__init__": ("name",)}, "NoLetter": {"__init__": ("number",)},
        "Asleep": {"__init__": ("name",)}, "Awake": {"__init__": ("name",)}, "Busy": {"__init__": ("name",)},
        "TooMany": {"__init__": ("what", "many", "limit")}, "Full": {"__init__": ("size",)},
        "Fallen": {"__init__": ("steps",)}, "NotKept": {"__init__": ("promise", "witness")},
        "NothingToUndo": {}, "NothingToRedo": {},
        "Settings": {"__init__": ("servers", "shelves", "k", "e", "f", "prime", "size", "width")}},
    "disk": {
        "Disk": {"__init__": ("size",), "write": ("number", "content"), "read": ("number",), "flush": (),
                 "set_fuse": ("steps",), "fall": ("lot",), "wipe": (), "spoil": ("number", "content")}},
    "keeper": {
        "Keeper": {"__init__": ("disk", "width"), "get": ("key",), "pairs": (), "weight": (),
                   "put": ("key", "value"), "drop": ("key",), "flush": ()}},
    "synod": {"BookServer": {"__init__": ("name", "disk", "width"), "hear": ("letter",)}},
    "agree": {
        "Agree": {"__init__": ("hand", "servers", "slot", "command"), "begin": ("number",), "hear": ("letter",),
                  "nudge": ()},
        "Walker": {"__init__": ("hand", "settings"), "submit": ("word", "body"), "hear": ("letter",), "nudge": ()}},
    "machine": {"State": {"__init__": ("need", "tree", "used", "barred", "lives", "many", "last")}},
    "shelves": {"Shelf": {"__init__": ("name", "disk", "width", "life"), "hear": ("letter",)}},
    "hands": {"Hand": {"__init__": ("name", "settings"), "call": ("deed",), "hear": ("letter",), "nudge": ()}},
    "world": {
        "World": {"__init__": ("settings",), "hand": ("name",), "call": ("name", "deed"), "nudge": ("name",),
                  "give": ("number",), "double": ("number",), "lose": ("number",), "cut": ("number", "steps", "lot"),
                  "crash": ("name", "lot"), "restart": ("name", "steps", "lot"), "wipe": ("name",),
                  "spoil": ("name", "write", "place", "number"), "fall": ("name",), "letters": (), "running": ("name",),
                  "blocks_of": ("name",), "waiting_of": ("name",), "life_of": ("name",), "hands": (), "busy": ("name",),
                  "known_by": ("name",), "spoiled": (), "history": ()}},
    "meaning": {"Meaning": {"__init__": ("start", "book", "state", "files")}},
    "judge": {"Trouble": {"__init__": ("rule", "place", "due")}},
    "story": {"Story": {"__init__": ("text",)}},
    "desk": {
        "Desk": {"__init__": ("text",), "lines": (), "item_names": (), "get_story": ("name",), "get_world": ("name",),
                 "put": ("text",), "drop": ("name",), "rename": ("name", "new"), "edit": ("name", "number", "text"),
                 "add": ("name", "text"), "keep": ("promise",), "release": ("promise",), "promises": (),
                 "holds": ("promise",), "broken": (), "undo": (), "redo": (), "attempt": ("action",),
                 "trial": ("action",)}},
}


def parameters(function):
    return tuple(inspect.signature(function).parameters)


class Interface(unittest.TestCase):
    def test_functions_stand_in_their_files(self):
        for name, functions in FUNCTIONS.items():
            module = importlib.import_module("keptfiles." + name)
            for word, expected in functions.items():
                function = getattr(module, word)
                self.assertEqual(function.__module__, module.__name__)
                self.assertEqual(parameters(function), expected, word)

    def test_classes_and_their_methods_stand_in_their_files(self):
        for name, classes in CLASSES.items():
            module = importlib.import_module("keptfiles." + name)
            for word, methods in classes.items():
                kind = getattr(module, word)
                self.assertEqual(kind.__module__, module.__name__)
                for method, expected in methods.items():
                    self.assertIn(method, vars(kind), word)
                    self.assertEqual(parameters(vars(kind)[method])[1:], expected, (word, method))

    def test_attributes_are_set_on_each_object(self):
        disk = Disk(3)
        settings = Settings(1, 1, 1, 0, 0, 2, 9, 1)
        told = ((settings, ("servers", "shelves", "k", "e", "f", "prime", "size", "width", "need")),
                (disk, ("size", "blocks", "waiting")), (Keeper(disk, 1), ("disk", "width")),
                (BookServer("b1", disk, 1), ("name", "disk", "keeper")),
                (Agree("ann", ("b1",), 0, "x"), ("slot", "ballot", "found")),
                (Walker("ann", settings), ("owner", "start", "rows", "state", "told")),
                (start_state(settings), ("need", "tree", "used", "barred", "lives", "many", "last")),
                (Shelf("s1", Disk(9), 1, 0), ("name", "disk", "keeper", "life")),
                (Hand("ann", settings), ("name", "settings", "walker", "is_busy", "result")),
                (World(settings), ("settings",)), (meaning(World(settings)), ("start", "book", "state", "files")),
                (Trouble(1, 0, None), ("rule", "place", "due")),
                (Story("store 1 1 1 0 0 2 9 1"), ("text", "settings", "deeds")))
        for thing, names in told:
            for name in names:
                self.assertIn(name, vars(thing))

    def test_isinstance_tells_classes_apart(self):
        disk = Disk(3)
        self.assertNotIsInstance(disk, Keeper)
        self.assertNotIsInstance(Keeper(disk, 1), Disk)


if __name__ == "__main__":
    unittest.main()
