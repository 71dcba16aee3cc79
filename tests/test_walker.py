"""Promises [27], [28]: a Walker, letter by letter."""

import unittest

from keptfiles.agree import Walker
from keptfiles.errors import Settings
from keptfiles.machine import answers_of, start_state, state_behind, state_data
from tests.helpers import same, state_tuple

SETTINGS = Settings(3, 4, 2, 0, 1, 11, 40, 2)
NAMES = ("b1", "b2", "b3")


def made(hand, count, name):
    return ((hand, count), "make", ((name,),))


class Checks(unittest.TestCase):
    def begun(self):
        return Walker("ann", SETTINGS)

    def check_asks(self, letters, slot, number=0):
        same(self, letters, tuple(("ann", server, "ask", (slot, (number, "ann"))) for server in NAMES))

    def check_sets(self, letters, slot, value, number=0):
        same(self, letters, tuple(("ann", server, "set", (slot, (number, "ann"), value)) for server in NAMES))

    def check_state(self, walker, commands):
        same(self, state_tuple(walker.state), state_tuple(state_behind(SETTINGS, commands)))

    def letter(self, word, *body, source="b1"):
        return (source, "ann", word, body)

    def set_by_two(self, walker, slot, value, elder=None, number=0):
        """Two servers say "yes", the first one with an elder ballot or none; the Walker sets this value."""
        ballot = (number, "ann")
        same(self, walker.hear(self.letter("yes", slot, ballot, elder, value if elder else None)), ())
        self.check_sets(walker.hear(self.letter("yes", slot, ballot, None, None, source="b2")), slot, value, number)

    def have_of_two(self, walker, slot, number=0):
        """Two servers say "have"; what the Walker sends then."""
        ballot = (number, "ann")
        same(self, walker.hear(self.letter("have", slot, ballot, source="b3")), ())
        return walker.hear(self.letter("have", slot, ballot))

    def find(self, walker, slot, value, elder=None):
        self.set_by_two(walker, slot, value, elder)
        return self.have_of_two(walker, slot)


class Own(Checks):
    def test_attributes_at_first(self):
        walker = self.begun()
        same(self, (walker.owner, walker.start, walker.rows, walker.told), ("ann", 0, (), None))
        same(self, state_tuple(walker.state), state_tuple(start_state(SETTINGS)))

    def test_nothing_without_an_open_command(self):
        walker = self.begun()
        same(self, walker.nudge(), ())
        data = state_data(state_behind(SETTINGS, (made("bob", 0, "x"),)))
        for letter in (self.letter("yes", 0, (0, "ann"), None, None), self.letter("past", 0, 5, data),
                       self.letter("no", 0, (0, "ann"), (4, "bob")), self.letter("have", 0, (0, "ann"))):
            same(self, walker.hear(letter), ())
        same(self, (walker.start, walker.rows, walker.told), (0, (), None))
        self.check_asks(walker.submit("idle", ()), 0)
        self.check_asks(walker.nudge(), 0)

    def test_one_command(self):
        walker = self.begun()
        self.check_asks(walker.submit("make", (("x",),)), 0)
        self.assertIsNone(walker.told)
        same(self, self.find(walker, 0, made("ann", 0, "x")), ())
        same(self, walker.told, ("done", 0))
        same(self, (walker.owner, walker.start, walker.rows), ("ann", 0, (made("ann", 0, "x"),)))
        self.check_state(walker, (made("ann", 0, "x"),))
        same(self, walker.nudge(), ())
        same(self, walker.hear(self.letter("have", 0, (0, "ann"), source="b2")), ())

    def test_by_names(self):
        walker = Walker(settings=SETTINGS, hand="ann")
        self.check_asks(walker.submit(body=(), word="idle"), 0)
        same(self, walker.hear(letter=self.letter("yes", 0, (0, "ann"), None, None)), ())

    def test_counts_and_slots_of_its_commands(self):
        walker = self.begun()
        commands = ()
        for count, name in enumerate(("x", "y", "x", "z")):
            self.check_asks(walker.submit("make", ((name,),)), count)
            self.assertIsNone(walker.told)
            commands += (made("ann", count, name),)
            same(self, self.find(walker, count, commands[-1]), ())
            same(self, walker.told, (answers_of(SETTINGS, commands)[-1], count))
            same(self, walker.rows, commands)
            self.check_state(walker, commands)

    def test_wrong_commands_are_told_too(self):
        for word, body in (("", ()), ("make", ()), ("make", (("x",), 1)), ("fold", ()), ("idle", (1,))):
            walker = self.begun()
            walker.submit(word, body)
            same(self, self.find(walker, 0, (("ann", 0), word, body)), ())
            same(self, walker.told, ("wrong", 0))

    def test_answers_that_are_tuples(self):
        walker = self.begun()
        walker.submit("list", ((),))
        self.find(walker, 0, (("ann", 0), "list", ((),)))
        same(self, walker.told, (("names", ()), 0))

    def test_nudge(self):
        walker = self.begun()
        walker.submit("idle", ())
        walker.hear(self.letter("yes", 0, (0, "ann"), None, None))
        same(self, walker.nudge(), tuple(("ann", server, "ask", (0, (0, "ann"))) for server in ("b2", "b3")))
        walker.hear(self.letter("no", 0, (0, "ann"), (6, "bob"), source="b3"))
        self.check_asks(walker.nudge(), 0, 7)
        idle = (("ann", 0), "idle", ())
        self.set_by_two(walker, 0, idle, number=7)
        self.check_sets(walker.nudge(), 0, idle, 7)
        same(self, self.have_of_two(walker, 0, 7), ())
        same(self, walker.told, ("idle", 0))
        walker.submit("idle", ())
        self.check_asks(walker.nudge(), 1)

    def test_what_was_read_stays(self):
        walker = self.begun()
        walker.submit("make", (("x",),))
        rows, state = walker.rows, walker.state
        before = state_tuple(state)
        self.find(walker, 0, made("ann", 0, "x"))
        same(self, (rows, state_tuple(state)), ((), before))


class Others(Checks):
    def test_slots_in_which_others_were_chosen(self):
        walker = self.begun()
        walker.submit("make", (("x",),))
        commands = (made("bob", 0, "y"), made("bob", 1, "x"), made("cyd", 0, "z"))
        for slot, command in enumerate(commands):
            self.check_asks(self.find(walker, slot, command, (0, "aaa")), slot + 1)
            self.assertIsNone(walker.told)
            same(self, walker.rows, commands[:slot + 1])
            self.check_state(walker, commands[:slot + 1])
        commands += (made("ann", 0, "x"),)
        same(self, self.find(walker, 3, commands[3]), ())
        same(self, walker.told, ("there", 3))
        same(self, walker.rows, commands)
        self.check_state(walker, commands)
        self.check_asks(walker.submit("idle", ()), 4)

    def test_its_own_command_as_an_elder_vote(self):
        walker = self.begun()
        walker.submit("make", (("x",),))
        same(self, self.find(walker, 0, made("ann", 0, "x"), (0, "aaa")), ())
        same(self, walker.told, ("done", 0))

    def test_a_command_that_is_alike_but_for_its_id_is_another_one(self):
        for other in (made("bob", 0, "x"), made("ann", 1, "x"), made("an", 0, "x")):
            walker = self.begun()
            walker.submit("make", (("x",),))
            self.check_asks(self.find(walker, 0, other, (0, "aaa")), 1)
            self.assertIsNone(walker.told)

    def test_letters_of_elder_slots(self):
        walker = self.begun()
        walker.submit("make", (("x",),))
        self.find(walker, 0, made("bob", 0, "y"), (0, "aaa"))
        for server in NAMES:
            same(self, walker.hear(self.letter("yes", 0, (0, "ann"), None, None, source=server)), ())
            same(self, walker.hear(self.letter("have", 0, (0, "ann"), source=server)), ())
            same(self, walker.hear(self.letter("no", 0, (0, "ann"), (9, "bob"), source=server)), ())
        self.check_asks(walker.nudge(), 1)

    def test_a_new_slot_begins_with_number_0(self):
        walker = self.begun()
        walker.submit("make", (("x",),))
        walker.hear(self.letter("no", 0, (0, "ann"), (6, "bob")))
        self.check_asks(walker.nudge(), 0, 7)
        self.set_by_two(walker, 0, made("bob", 0, "y"), (6, "bob"), 7)
        self.check_asks(self.have_of_two(walker, 0, 7), 1)

    def test_letters_of_shelves_and_hands(self):
        walker = self.begun()
        walker.submit("make", (("x",),))
        for source in ("s1", "b4", "bob", "ann"):
            for word, body in (("yes", (0, (0, "ann"), None, None)), ("have", (0, (0, "ann"))), ("kept", (("a", 0), 0)),
                               ("past", (0, 5, None)), ("folded", (5,)), ("no", (0, (0, "ann"), (7, "bob")))):
                same(self, walker.hear((source, "ann", word, body)), ())
        for server in NAMES:
            same(self, walker.hear((server, "ann", "folded", (0,))), ())
        self.check_asks(walker.nudge(), 0)


class Past(Checks):
    def folded(self, *commands):
        return state_data(state_behind(SETTINGS, commands))

    def test_a_command_that_was_not_done(self):
        walker = self.begun()
        walker.submit("make", (("x",),))
        commands = (made("bob", 0, "y"), made("bob", 1, "x"))
        self.check_asks(walker.hear(self.letter("past", 0, 2, self.folded(*commands))), 2)
        same(self, (walker.start, walker.rows, walker.told), (2, (), None))
        self.check_state(walker, commands)
        commands += (made("ann", 0, "x"),)
        same(self, self.find(walker, 2, commands[2]), ())
        same(self, (walker.start, walker.rows, walker.told), (2, (commands[2],), ("there", 2)))
        self.check_state(walker, commands)
        self.check_asks(walker.submit("idle", ()), 3)

    def test_a_command_that_was_done(self):
        commands = (made("bob", 0, "y"), made("ann", 0, "x"), made("bob", 1, "x"))
        walker = self.begun()
        walker.submit("make", (("x",),))
        same(self, walker.hear(self.letter("past", 0, 3, self.folded(*commands), source="b3")), ())
        same(self, (walker.start, walker.rows, walker.told), (3, (), ("done", 1)))
        self.check_state(walker, commands)
        same(self, walker.nudge(), ())
        for server in NAMES:
            same(self, walker.hear(self.letter("past", 0, 3, self.folded(*commands), source=server)), ())
            same(self, walker.hear(self.letter("have", 0, (0, "ann"), source=server)), ())
        self.check_asks(walker.submit("idle", ()), 3)
        same(self, self.find(walker, 3, (("ann", 1), "idle", ())), ())
        same(self, walker.told, ("idle", 3))

    def test_an_elder_command_of_its_own_is_not_the_open_one(self):
        walker = self.begun()
        walker.submit("make", (("x",),))
        self.find(walker, 0, made("ann", 0, "x"))
        walker.submit("make", (("z",),))
        commands = (made("ann", 0, "x"), made("bob", 0, "y"))
        self.check_asks(walker.hear(self.letter("past", 1, 2, self.folded(*commands))), 2)
        same(self, (walker.start, walker.rows, walker.told), (2, (), None))
        same(self, self.find(walker, 2, made("ann", 1, "z")), ())
        same(self, walker.told, ("done", 2))

    def test_what_was_known_is_given_up(self):
        walker = self.begun()
        walker.submit("make", (("x",),))
        commands = tuple(made("bob", count, "y" + str(count)) for count in range(5))
        self.find(walker, 0, commands[0], (0, "aaa"))
        self.find(walker, 1, commands[1], (0, "aaa"))
        same(self, walker.rows, commands[:2])
        self.check_asks(walker.hear(self.letter("past", 2, 5, self.folded(*commands))), 5)
        same(self, (walker.start, walker.rows), (5, ()))
        self.check_state(walker, commands)

    def test_folds_that_are_not_above(self):
        walker = self.begun()
        walker.submit("make", (("x",),))
        self.find(walker, 0, made("bob", 0, "y"), (0, "aaa"))
        state = state_tuple(walker.state)
        data = self.folded(made("bob", 0, "y"))
        for fold in (0, 1):
            same(self, walker.hear(self.letter("past", 1, fold, data)), ())
        same(self, (walker.start, walker.rows), (0, (made("bob", 0, "y"),)))
        same(self, state_tuple(walker.state), state)
        self.check_asks(walker.nudge(), 1)

    def test_other_slots_and_sources(self):
        walker = self.begun()
        walker.submit("make", (("x",),))
        self.find(walker, 0, made("bob", 0, "y"), (0, "aaa"))
        data = self.folded(*[made("bob", count, "y") for count in range(9)])
        for slot in (0, 2, 8):
            same(self, walker.hear(self.letter("past", slot, 9, data)), ())
        for source in ("b4", "b0", "s1", "bob", ""):
            same(self, walker.hear(self.letter("past", 1, 9, data, source=source)), ())
        same(self, (walker.start, len(walker.rows), walker.told), (0, 1, None))
        self.check_asks(walker.nudge(), 1)
        self.check_asks(walker.hear(self.letter("past", 1, 9, data, source="b3")), 9)

    def test_while_it_sets(self):
        walker = self.begun()
        walker.submit("make", (("x",),))
        self.set_by_two(walker, 0, made("ann", 0, "x"))
        walker.hear(self.letter("have", 0, (0, "ann")))
        data = self.folded(made("bob", 0, "y"))
        self.check_asks(walker.hear(self.letter("past", 0, 1, data, source="b2")), 1)
        same(self, walker.hear(self.letter("have", 0, (0, "ann"), source="b3")), ())
        self.check_asks(walker.nudge(), 1)

    def test_lives_and_marks_come_back(self):
        commands = ((("bob", 0), "life", ("s2", 3)), (("bob", 1), "life", ("s4", 1)), (("bob", 2), "whole", ("s4", 1)),
                    (("bob", 3), "bar", (("cyd", 1),)))
        walker = self.begun()
        walker.submit("idle", ())
        walker.hear(self.letter("past", 0, 4, self.folded(*commands)))
        same(self, walker.state.lives, ((0, True), (3, False), (0, True), (1, True)))
        same(self, walker.state.barred, (("cyd", 1),))
        self.check_state(walker, commands)

    def test_two_folds_one_behind_the_other(self):
        commands = tuple(made("bob", count, "y" + str(count)) for count in range(7))
        walker = self.begun()
        walker.submit("make", (("x",),))
        self.check_asks(walker.hear(self.letter("past", 0, 3, self.folded(*commands[:3]))), 3)
        same(self, walker.hear(self.letter("past", 0, 3, self.folded(*commands[:3]), source="b2")), ())
        self.check_asks(walker.hear(self.letter("past", 3, 7, self.folded(*commands))), 7)
        same(self, (walker.start, walker.rows), (7, ()))
        self.check_state(walker, commands)


if __name__ == "__main__":
    unittest.main()
