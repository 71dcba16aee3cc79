"""A keeper: a map on a disk that loses nothing that was flushed, and no part of a deed.

Block 0 is the root, (generation, half, run, base). Behind it lie two halves of equal size, of which
the root tells the one that counts. A block of a half is (generation, index, run, left, key, part).
"""

from keptfiles.errors import BadNumber, Full, is_from


def room_of(size):
    """How many blocks each half of a disk of this size has."""
    return (size - 1) // 2


def record_size(value, width):
    """How many blocks the record of a put of this value takes."""
    return max(1, (len(value) + width - 1) // width)


def parts_of(value, width):
    """The parts of the blocks of a record, in order; value is None for a drop."""
    if value is None:
        return [None]
    return [value[at * width:(at + 1) * width] for at in range(record_size(value, width))]


def record_of(key, value, generation, index, run, width):
    """What the blocks of a record hold, the first one at this index; value is None for a drop."""
    parts = parts_of(value, width)
    last = len(parts) - 1
    return tuple([(generation, index + at, run, last - at, key, part) for at, part in enumerate(parts)])


def first_of(half, size):
    """The number of the first block of a half on a disk of this size."""
    return 1 + half * room_of(size)


def row_of(blocks):
    """The blocks of the half that counts; the root is not empty."""
    first = first_of(blocks[0][1], len(blocks))
    return blocks[first:first + room_of(len(blocks))]


def goes_on(row, head, index, left):
    """Whether the block at this index goes on with the record that begins with head."""
    generation, _, run, _, key, _ = head
    block = row[index]
    if block is None or block[5] is None:
        return False
    return block[:5] == (generation, index, run, left, key)


def is_there(row, index, generation, least, most):
    """Whether a record of this generation is there, with a run from least to most."""
    if index >= len(row) or row[index] is None:
        return False
    head = row[index]
    own_generation, own_index, run, left, _, part = head
    if own_generation != generation or own_index != index or run < least or run > most:
        return False
    if part is None:
        return left == 0
    if index + left >= len(row):
        return False
    return all([goes_on(row, head, index + at, left - at) for at in range(1, left + 1)])


def spans_from(blocks, index, least):
    """The pairs (index, number of blocks) of the records from this index on; the root is not empty.

    least is the run of the record ahead of them, or the base.
    """
    generation, _, most, _ = blocks[0]
    row = row_of(blocks)
    spans = []
    while is_there(row, index, generation, least, most):
        _, _, least, left, _, _ = row[index]
        spans.append((index, left + 1))
        index += left + 1
    return spans


def spans_of(blocks):
    """The pairs (index, number of blocks) of all records that are there, in order."""
    if blocks[0] is None:
        return []
    return spans_from(blocks, 0, blocks[0][3])


def entry_of(record):
    """The pair (key, value) that the blocks of a record tell."""
    key, part = record[0][4:]
    if part is None:
        return key, None
    cells = []
    for block in record:
        cells.extend(block[5])
    return key, tuple(cells)


def log_of(blocks):
    """The pair of the entries that the blocks tell, and of the number of blocks that they take."""
    spans = spans_of(blocks)
    if len(spans) == 0:
        return (), 0
    row = row_of(blocks)
    entries = [entry_of(row[index:index + many]) for index, many in spans]
    return tuple(entries), sum([many for _, many in spans])


def change(pairs, entries):
    """Entries change a map, one after the other."""
    for key, value in entries:
        if value is not None:
            pairs[key] = value
        elif key in pairs:
            del pairs[key]


def map_of(entries):
    """The map that entries lead to, keys in the order in which they were put first."""
    pairs = {}
    change(pairs, entries)
    return pairs


def kept(blocks):
    """The map that the blocks of a disk tell."""
    entries, _ = log_of(blocks)
    return map_of(entries)


def last_span(blocks, key):
    """The pair (number of its first block, number of blocks) of the last record of this key, or None."""
    if blocks[0] is None:
        return None
    first = first_of(blocks[0][1], len(blocks))
    found = None
    for index, many in spans_of(blocks):
        if blocks[first + index][4] == key:
            found = (first + index, many)
    return found


def cell_at(blocks, key, place):
    """The pair (number of a block, place in its part) of a cell of the map, None if it is not there."""
    span = last_span(blocks, key)
    if span is None:
        return None
    first, many = span
    ahead = 0
    for number in range(first, first + many):
        part = blocks[number][5]
        if part is None:
            return None
        if place < ahead + len(part):
            return number, place - ahead
        ahead += len(part)
    return None


class Keeper:
    """A map on a disk; what it holds is the map behind all deeds, also those that still wait."""

    def __init__(self, disk, width):
        if disk.size < 3:
            raise BadNumber("size", disk.size)
        if not is_from(width, 1):
            raise BadNumber("width", width)
        self.disk = disk
        self.width = width
        self._root = self._begun_root()
        disk.write(0, self._root)
        disk.flush()
        entries, end = log_of(disk.blocks)
        self._pairs = map_of(entries)
        self._end = end
        self._weight = sum([record_size(value, width) for value in self._pairs.values()])

    def get(self, key):
        """The value under this key, or None."""
        return self._pairs.get(key)

    def pairs(self):
        """The pairs (key, value) of the map, in its order."""
        return tuple(self._pairs.items())

    def weight(self):
        """How many blocks the records of puts of all pairs take."""
        return self._weight

    def put(self, key, value):
        """The value is under this key from now on."""
        weight = self._weight - self._size_under(key) + record_size(value, self.width)
        if weight > room_of(self.disk.size):
            raise Full(self.disk.size)
        self._weight = weight
        self._pairs[key] = value
        self._write_down(key, value)

    def drop(self, key):
        """Whether the key was there; it is there no longer."""
        if key not in self._pairs:
            return False
        self._weight -= self._size_under(key)
        del self._pairs[key]
        self._write_down(key, None)
        return True

    def flush(self):
        """Flushes the disk."""
        self.disk.flush()

    def _begun_root(self):
        found = self.disk.blocks[0]
        if found is None:
            return (0, 0, 1, 1)
        generation, half, run, base = found
        return (generation, half, run + 1, base)

    def _size_under(self, key):
        if key not in self._pairs:
            return 0
        return record_size(self._pairs[key], self.width)

    def _write_down(self, key, value):
        generation, half, run, _ = self._root
        record = record_of(key, value, generation, self._end, run, self.width)
        if self._end + len(record) > room_of(self.disk.size):
            self._move()
            return
        self._write(record, half)
        self._end += len(record)

    def _move(self):
        generation, half, run, _ = self._root
        root = (generation + 1, 1 - half, run, run)
        end = 0
        for key, value in self._pairs.items():
            record = record_of(key, value, generation + 1, end, run, self.width)
            self._write(record, 1 - half)
            end += len(record)
        # The root may tell the other half only when all of its records are sure to lie there.
        self.disk.flush()
        self.disk.write(0, root)
        self.disk.flush()
        self._root = root
        self._end = end

    def _write(self, record, half):
        first = first_of(half, self.disk.size)
        for block in record:
            self.disk.write(first + block[1], block)
