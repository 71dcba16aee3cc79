"""A disk: when its machine falls, it loses what was not flushed."""

from keptfiles.errors import BadNumber, Fallen, is_from, is_within


def is_ascending(lot):
    """Whether lot is a list of ascending numbers, each once."""
    if not isinstance(lot, (list, tuple)):
        return False
    least = 0
    for place in lot:
        if not is_from(place, least):
            return False
        least = place + 1
    return True


def is_lot(lot, many):
    """Whether lot is a list of ascending places of so many waiting writes."""
    return is_ascending(lot) and (len(lot) == 0 or lot[-1] < many)


class Disk:
    """Blocks, each with a tuple or None, and the writes that wait for a flush."""

    def __init__(self, size):
        if not is_from(size, 1):
            raise BadNumber("size", size)
        self.size = size
        self.blocks = (None,) * size
        self.waiting = ()
        self._fuse = None
        self._left = None

    def write(self, number, content):
        """A write to this block begins to wait."""
        self._need_block(number)
        self._take_step()
        self.waiting = self.waiting + ((number, content),)

    def read(self, number):
        """What the block holds as soon as all writes that wait are done."""
        self._need_block(number)
        for at, content in reversed(self.waiting):
            if at == number:
                return content
        return self.blocks[number]

    def flush(self):
        """All waiting writes are done."""
        self._take_step()
        self._do(self.waiting)

    def set_fuse(self, steps):
        """The disk bears so many steps more, or any number of them for None."""
        if steps is not None and not is_from(steps, 0):
            raise BadNumber("steps", steps)
        self._fuse = steps
        self._left = steps

    def fall(self, lot):
        """The waiting writes at these places are done, the others are gone."""
        if not is_lot(lot, len(self.waiting)):
            raise BadNumber("lot", lot)
        self._do([self.waiting[place] for place in lot])
        self._fuse = None

    def wipe(self):
        """All is gone: blocks, waiting writes and the fuse."""
        self.blocks = (None,) * self.size
        self.waiting = ()
        self._fuse = None

    def spoil(self, number, content):
        """The block holds another content at once, past all waiting writes."""
        self._need_block(number)
        self.blocks = self.blocks[:number] + (content,) + self.blocks[number + 1:]

    def _need_block(self, number):
        if not is_within(number, 0, self.size - 1):
            raise BadNumber("block", number)

    def _take_step(self):
        if self._fuse is None:
            return
        if self._left == 0:
            raise Fallen(self._fuse)
        self._left -= 1

    def _do(self, writes):
        blocks = list(self.blocks)
        for number, content in writes:
            blocks[number] = content
        self.blocks = tuple(blocks)
        self.waiting = ()
