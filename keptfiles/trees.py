"""Trees of folders and files: tuples of pairs (path, rows), paths ascending; rows is None for a folder.

What a row of a file is does not matter here. What changes a tree returns the pair of the tree behind it, and
of the answer; the tree is the same one unless the answer is "done".
"""

ROOT_ALONE = (((), None),)


def place_of(tree, path):
    """The place at which a PATH stands in a tree, or would stand."""
    low, high = 0, len(tree)
    while low < high:
        middle = (low + high) // 2
        if tree[middle][0] < path:
            low = middle + 1
        else:
            high = middle
    return low


def is_at(tree, place, path):
    """Whether a PATH stands at this place of a tree."""
    return place < len(tree) and tree[place][0] == path


def is_in(tree, path):
    """Whether a PATH is in a tree."""
    return is_at(tree, place_of(tree, path), path)


def is_folder(tree, path):
    """Whether a PATH is a folder of a tree."""
    place = place_of(tree, path)
    return is_at(tree, place, path) and tree[place][1] is None


def is_below(path, above):
    """Whether a PATH begins with another one and is longer."""
    return len(path) > len(above) and path[:len(above)] == above


def file_in(tree, path):
    """The rows of a file, None if the PATH is no file of the tree."""
    place = place_of(tree, path)
    return tree[place][1] if is_at(tree, place, path) else None


def with_rows(tree, path, rows):
    """The tree in which a file, which is there, has other rows."""
    place = place_of(tree, path)
    return tree[:place] + ((path, rows),) + tree[place + 1:]


def with_path(tree, path, rows):
    """A PATH is put in: as a folder if rows is None, otherwise as a file with these rows."""
    place = place_of(tree, path)
    if is_at(tree, place, path):
        return tree, "there"
    if not is_folder(tree, path[:-1]):
        return tree, "folder"
    return tree[:place] + ((path, rows),) + tree[place:], "done"


def names_in(tree, path):
    """The answer that tells what is in a folder."""
    if not is_in(tree, path):
        return "none"
    if not is_folder(tree, path):
        return "file"
    inside = [(known, rows) for known, rows in tree if known != () and known[:-1] == path]
    return "names", tuple([(known[-1], "folder" if rows is None else "file") for known, rows in inside])


def move_trouble(tree, path, to):
    """Why a PATH cannot be moved, None if it can."""
    if not is_in(tree, path):
        return "none"
    if path == ():
        return "root"
    if is_below(to, path):
        return "within"
    if is_in(tree, to):
        return "there"
    if not is_folder(tree, to[:-1]):
        return "folder"
    return None


def with_moved(tree, path, to):
    """A PATH is moved, and all that is below it."""
    trouble = move_trouble(tree, path, to)
    if trouble is not None:
        return tree, trouble
    pairs = []
    for known, rows in tree:
        is_moved = known == path or is_below(known, path)
        pairs.append((to + known[len(path):] if is_moved else known, rows))
    return tuple(sorted(pairs, key=lambda pair: pair[0])), "done"


def without_path(tree, path):
    """A PATH is taken out."""
    place = place_of(tree, path)
    if not is_at(tree, place, path):
        return tree, "none"
    if path == ():
        return tree, "root"
    # What is below a PATH stands right behind it.
    if place + 1 < len(tree) and is_below(tree[place + 1][0], path):
        return tree, "full"
    return tree[:place] + tree[place + 1:], "done"


def with_row(tree, path, number, row):
    """A row comes in the place of the one with this number, or behind the last one."""
    rows = file_in(tree, path)
    if rows is None:
        return tree, "none"
    if number > len(rows):
        return tree, "gap"
    return with_rows(tree, path, rows[:number] + (row,) + rows[number + 1:]), "done"


def with_length(tree, path, length):
    """Only so many first rows of a file stay."""
    rows = file_in(tree, path)
    if rows is None:
        return tree, "none"
    if length > len(rows):
        return tree, "gap"
    return with_rows(tree, path, rows[:length]), "done"


def row_at(tree, path, number):
    """The pair of a row of a file and None, or of None and the answer that tells why there is none."""
    rows = file_in(tree, path)
    if rows is None:
        return None, "none"
    if number >= len(rows):
        return None, "gap"
    return rows[number], None


def length_in(tree, path):
    """The answer that tells the length of a file."""
    rows = file_in(tree, path)
    if rows is None:
        return "none"
    return "size", len(rows)
