"""The world: machines and hands, the letters between them, and all that may befall them."""

from keptfiles.disk import Disk, is_ascending
from keptfiles.errors import (Asleep, Awake, BadName, BadNumber, Fallen, NoLetter, NoName, TakenName, TooMany, is_from,
                              is_int, is_name, is_within, server_names, shelf_names)
from keptfiles.hands import Hand
from keptfiles.keeper import cell_at
from keptfiles.machine import is_write
from keptfiles.meaning import whole_shelves
from keptfiles.rot import Rot, counts_as_spoiled, rot_behind, with_right
from keptfiles.shelves import Shelf, key_of_piece
from keptfiles.synod import BookServer
from keptfiles.views import View

MOST_DEEDS = 20000


def has_name(table, name):
    """Whether a value is a name in a table."""
    return isinstance(name, str) and name in table


def need_lot(lot):
    """Raises BadNumber if lot is no list of ascending numbers, each once."""
    if not is_ascending(lot):
        raise BadNumber("lot", lot)


def with_item(row, place, item):
    """A tuple with another item at this place."""
    return row[:place] + (item,) + row[place + 1:]


class World:
    """All machines of a store, its hands, and the letters between them."""

    def __init__(self, settings):
        self.settings = settings
        names = shelf_names(settings)
        self._disks = {name: Disk(settings.size) for name in server_names(settings) + names}
        self._lives = {name: 0 for name in names}
        self._machines = {name: self._begun_machine(name) for name in self._disks}
        self._rots = {name: Rot({}, False, 0) for name in names}
        self._hands = {}
        self._called = {}
        self._moment = 0
        self._under_way = {}
        self._sent = 0
        self._happened = []
        self._view = View(self)

    # Deeds.

    def hand(self, name):
        """A new hand begins."""
        if not is_name(name):
            raise BadName(name)
        if name in self._machines or name in self._hands:
            raise TakenName(name)
        self._hands[name] = Hand(name, self.settings)

    def call(self, name, deed):
        """A hand begins a deed."""
        letters = self._need_hand(name).call(deed)
        self._moment += 1
        self._called[name] = self._moment
        self._happened.append(("call", name, deed))
        self._send(letters)

    def nudge(self, name):
        """A hand tries again."""
        self._send(self._need_hand(name).nudge())

    def give(self, number):
        """A letter is given, and is under way no longer."""
        letter = self._need_letter(number)
        del self._under_way[number]
        self._deliver(letter)

    def double(self, number):
        """A letter is given, and stays under way."""
        self._deliver(self._need_letter(number))

    def lose(self, number):
        """A letter is under way no longer."""
        self._need_letter(number)
        del self._under_way[number]

    def cut(self, number, steps, lot):
        """A letter is given to a machine that falls while it hears, or right behind."""
        letter = self._need_letter(number)
        name = letter[1]
        machine = self._need_running(name)
        if not is_from(steps, 0):
            raise BadNumber("steps", steps)
        need_lot(lot)
        del self._under_way[number]
        self._disks[name].set_fuse(steps)
        letters = ()
        try:
            letters = machine.hear(letter)
        except Fallen:
            pass
        self._fall(name, lot)
        self._send(letters)

    def crash(self, name, lot=()):
        """A machine falls."""
        self._need_running(name)
        need_lot(lot)
        self._fall(name, lot)

    def restart(self, name, steps=None, lot=()):
        """A fallen machine begins anew; with a number of steps it may fall again meanwhile."""
        self._need_fallen(name)
        if steps is not None and not is_from(steps, 0):
            raise BadNumber("steps", steps)
        need_lot(lot)
        disk = self._disks[name]
        disk.set_fuse(steps)
        try:
            self._machines[name] = self._begun_machine(name)
        except Fallen:
            self._fall(name, lot)
            return
        disk.set_fuse(None)
        self._look_at(name)

    def wipe(self, name):
        """A shelf loses its whole disk."""
        self._need_shelf(name)
        whole = whole_shelves(self)
        many = len([shelf for shelf in self._lives if shelf == name or shelf not in whole])
        if many > self.settings.f:
            raise TooMany("shelves", many, self.settings.f)
        self._machines[name] = None
        self._lives[name] += 1
        self._disks[name].wipe()
        self._look_at(name)

    def spoil(self, name, write, place, number):
        """A cell of a piece on the disk of a fallen shelf becomes another number."""
        self._need_shelf(name)
        self._need_fallen(name)
        disk = self._disks[name]
        key = key_of_piece(write)
        found = cell_at(disk.blocks, key, place) if is_write(write) and is_from(place, 0) else None
        if found is None:
            raise BadNumber("place", place)
        if not is_within(number, 0, self.settings.prime - 1):
            raise BadNumber("number", number)
        self._rots[name] = self._rot_behind_spoiling(name, write, place, number)
        at, cell = found
        block = disk.blocks[at]
        disk.spoil(at, with_item(block, 5, with_item(block[5], cell, number)))
        self._view.touch(name)

    def fall(self, name):
        """A hand is gone for ever."""
        self._need_hand(name)
        self._hands[name] = None
        if name in self._called:
            del self._called[name]

    # What it tells.

    def letters(self):
        """The pairs (number, letter) of all letters under way, ascending."""
        return tuple(self._under_way.values())

    def running(self, name):
        """Whether a machine runs, or a hand has not fallen."""
        if has_name(self._machines, name):
            return self._machines[name] is not None
        if has_name(self._hands, name):
            return self._hands[name] is not None
        raise NoName(name)

    def blocks_of(self, name):
        """The blocks of a machine's disk."""
        self._need_machine(name)
        return self._disks[name].blocks

    def waiting_of(self, name):
        """The writes that wait on a machine's disk."""
        self._need_machine(name)
        return self._disks[name].waiting

    def life_of(self, name):
        """The life of a shelf."""
        self._need_shelf(name)
        return self._lives[name]

    def hands(self):
        """The NAMEs of all hands that have not fallen, ascending."""
        return tuple(sorted([name for name, hand in self._hands.items() if hand is not None]))

    def busy(self, name):
        """Whether a hand's deed is not over."""
        return self._need_hand(name).is_busy

    def known_by(self, name):
        """The book as far as a hand knows it: (start, rows)."""
        walker = self._need_hand(name).walker
        return walker.start, walker.rows

    def spoiled(self):
        """The NAMEs of the shelves that are spoiled, ascending by their numbers."""
        return tuple([name for name, rot in self._rots.items() if rot.is_spoiled])

    def history(self):
        """All that was called and answered, in order."""
        return tuple(self._happened)

    def numbers_of(self, name, least):
        """The numbers, from least on, of the letters under way from or to this machine or hand, ascending."""
        found = []
        for number in range(least, self._sent):
            if number in self._under_way and name in self._under_way[number][1][:2]:
                found.append(number)
        return found

    # What these need.

    def _need_machine(self, name):
        if not has_name(self._machines, name):
            raise NoName(name)

    def _need_running(self, name):
        """The machine, if it runs."""
        self._need_machine(name)
        if self._machines[name] is None:
            raise Asleep(name)
        return self._machines[name]

    def _need_fallen(self, name):
        self._need_machine(name)
        if self._machines[name] is not None:
            raise Awake(name)

    def _need_shelf(self, name):
        if not has_name(self._lives, name):
            raise NoName(name)

    def _need_hand(self, name):
        """The hand, if it has not fallen."""
        if not has_name(self._hands, name):
            raise NoName(name)
        if self._hands[name] is None:
            raise Asleep(name)
        return self._hands[name]

    def _need_letter(self, number):
        """The letter with this number."""
        if not is_int(number) or number not in self._under_way:
            raise NoLetter(number)
        return self._under_way[number][1]

    def _begun_machine(self, name):
        """A machine that begins on its disk, as it is."""
        disk, width = self._disks[name], self.settings.width
        if name in self._lives:
            return Shelf(name, disk, width, self._lives[name])
        return BookServer(name, disk, width)

    def _send(self, letters):
        for letter in letters:
            self._under_way[self._sent] = (self._sent, letter)
            self._sent += 1

    def _deliver(self, letter):
        """The target hears a letter, if it runs."""
        name = letter[1]
        if name in self._hands:
            self._deliver_to_hand(name, letter)
        elif self._machines[name] is not None:
            letters = self._machines[name].hear(letter)
            self._look_at(name)
            self._send(letters)

    def _deliver_to_hand(self, name, letter):
        hand = self._hands[name]
        if hand is None:
            return
        letters = hand.hear(letter)
        if name in self._called and not hand.is_busy:
            del self._called[name]
            answer, slot = hand.result
            self._happened.append(("answer", name, answer, slot))
        self._send(letters)

    def _fall(self, name, lot):
        """A machine falls; places that no waiting write has mean nothing."""
        disk = self._disks[name]
        disk.fall([place for place in lot if place < len(disk.waiting)])
        self._machines[name] = None
        self._look_at(name)

    def _look_at(self, name):
        """The disk of a machine may have changed: perhaps a shelf is spoiled no longer."""
        self._view.touch(name)
        if name in self._rots and self._rots[name].is_spoiled:
            self._moment += 1
            self._rots[name] = rot_behind(self._rots[name], self._view.read_map(name), self._moment)

    def _rot_behind_spoiling(self, name, write, place, number):
        """The Rot of a shelf with this cell spoiled, if not too many shelves count as spoiled then."""
        contents = self._view.read_map(name)
        key = key_of_piece(write)
        behind = {known: contents[known] for known in contents}
        behind[key] = with_item(contents[key], place, number)
        rot = rot_behind(with_right(self._rots[name], write, contents[key]), behind, self._moment + 1)
        eldest = min(list(self._called.values()), default=None)
        rots = [rot if shelf == name else self._rots[shelf] for shelf in self._rots]
        many = len([1 for each in rots if counts_as_spoiled(each, eldest)])
        if many > self.settings.e:
            raise TooMany("spoiled", many, self.settings.e)
        self._moment += 1
        return rot


def first_busy(world):
    """The least NAME of the hands whose deeds are not over, None if there is none."""
    return min([name for name in world.hands() if world.busy(name)], default=None)


def one_more(done):
    """One deed more than those that are done, if there may be one."""
    if done == MOST_DEEDS:
        raise TooMany("deeds", MOST_DEEDS, MOST_DEEDS)
    return done + 1


def serve(world, name, done):
    """Serves a hand alone until its deed is over; how many deeds are done then."""
    least = 0
    while world.busy(name):
        numbers = world.numbers_of(name, least)
        if len(numbers) == 0:
            done = one_more(done)
            world.nudge(name)
        for number in numbers:
            if world.busy(name):
                done = one_more(done)
                world.give(number)
                least = number + 1
    return done


def settle(world):
    """Serves all hands whose deeds are not over, one behind the other; how many deeds this took."""
    done = 0
    name = first_busy(world)
    while name is not None:
        done = serve(world, name, done)
        name = first_busy(world)
    return done
