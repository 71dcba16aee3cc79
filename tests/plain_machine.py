"""A second machine, written only for the tests, over one dict: what the machine of the package is held against."""

import re


def is_name(value):
    return type(value) is str and re.fullmatch("[a-z][a-z0-9]{0,11}", value) is not None


def is_number(value):
    return type(value) is int and value >= 0


def is_path(value):
    return type(value) is tuple and all(is_name(name) for name in value)


def is_write(value):
    return type(value) is tuple and len(value) == 2 and is_name(value[0]) and is_number(value[1])


class PlainMachine:
    """Folders are None, files are lists of rows."""

    def __init__(self, settings):
        self.need = settings.need
        self.tree = {(): None}
        self.used = set()
        self.barred = set()
        self.lives = {"s" + str(number): [0, True] for number in range(1, settings.shelves + 1)}
        self.many = 0
        self.last = {}

    def told(self):
        """All that a State has."""
        tree = tuple((path, rows if rows is None else tuple(rows)) for path, rows in sorted(
            self.tree.items(), key=lambda pair: pair[0]))
        lives = tuple((life, is_whole) for life, is_whole in self.lives.values())
        return (self.need, tree, tuple(sorted(self.used)), tuple(sorted(self.barred)), lives, self.many,
                tuple((hand,) + self.last[hand] for hand in sorted(self.last)))

    def do(self, command):
        (hand, count), word, body = command
        answer = "wrong"
        if self.is_right(hand, word, body):
            answer = getattr(self, "do_" + word)(*body)
        self.last[hand] = (count, answer, self.many)
        self.many += 1
        return answer

    def is_mark(self, value):
        return type(value) is tuple and len(value) == 2 and self.is_shelf(value[0]) and is_number(value[1])

    def is_shelf(self, value):
        return type(value) is str and value in self.lives

    def is_right(self, hand, word, body):
        if type(body) is not tuple:
            return False
        if word in ("make", "file", "list", "drop", "size"):
            return len(body) == 1 and is_path(body[0])
        if word == "move":
            return len(body) == 2 and is_path(body[0]) and is_path(body[1])
        if word in ("look", "cut"):
            return len(body) == 2 and is_path(body[0]) and is_number(body[1])
        if word in ("life", "whole"):
            return self.is_mark(body)
        if word == "bar":
            return len(body) == 1 and is_write(body[0])
        if word == "commit":
            return (len(body) == 5 and is_path(body[0]) and is_number(body[1]) and is_write(body[2])
                    and is_number(body[3]) and type(body[4]) is tuple and all(map(self.is_mark, body[4]))
                    and body[2][0] == hand)
        return word == "idle" and body == ()

    def put(self, path, thing):
        if path in self.tree:
            return "there"
        if self.tree.get(path[:-1], "nothing") is not None:
            return "folder"
        self.tree[path] = thing
        return "done"

    def do_make(self, path):
        return self.put(path, None)

    def do_file(self, path):
        return self.put(path, [])

    def do_list(self, path):
        if path not in self.tree:
            return "none"
        if self.tree[path] is not None:
            return "file"
        names = {known[-1]: "file" if type(rows) is list else "folder" for known, rows in self.tree.items()
                 if len(known) == len(path) + 1 and known[:-1] == path}
        return "names", tuple(sorted(names.items()))

    def do_move(self, path, to):
        if path not in self.tree:
            return "none"
        if not path:
            return "root"
        if to[:len(path)] == path and to != path:
            return "within"
        if to in self.tree:
            return "there"
        if self.tree.get(to[:-1], "nothing") is not None:
            return "folder"
        for known in [known for known in self.tree if known[:len(path)] == path]:
            self.tree[to + known[len(path):]] = self.tree.pop(known)
        return "done"

    def do_drop(self, path):
        if path not in self.tree:
            return "none"
        if not path:
            return "root"
        if [known for known in self.tree if known[:-1] == path and known]:
            return "full"
        del self.tree[path]
        return "done"

    def do_commit(self, path, number, write, count, marks):
        rows = self.tree.get(path)
        if rows is None:
            return "none"
        if number > len(rows):
            return "gap"
        if write in self.barred:
            return "barred"
        if write in self.used:
            return "used"
        if sum((shelf, life) in marks for shelf, (life, _) in self.lives.items()) < self.need:
            return "few"
        rows[number:number + 1] = [(write, count)]
        self.used.add(write)
        return "done"

    def do_look(self, path, number):
        rows = self.tree.get(path)
        if rows is None:
            return "none"
        return ("write",) + rows[number] if number < len(rows) else "gap"

    def do_size(self, path):
        rows = self.tree.get(path)
        return "none" if rows is None else ("size", len(rows))

    def do_cut(self, path, length):
        rows = self.tree.get(path)
        if rows is None:
            return "none"
        if length > len(rows):
            return "gap"
        del rows[length:]
        return "done"

    def do_bar(self, write):
        if write in self.used:
            return "used"
        self.barred.add(write)
        return "barred"

    def do_life(self, shelf, life):
        if life <= self.lives[shelf][0]:
            return "known" if life == self.lives[shelf][0] else "old"
        self.lives[shelf] = [life, False]
        return "new"

    def do_whole(self, shelf, life):
        if life != self.lives[shelf][0]:
            return "other"
        self.lives[shelf][1] = True
        return "whole"

    def do_idle(self):
        return "idle"
